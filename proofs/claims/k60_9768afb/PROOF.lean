import PyProof.Rows.All
import Wide.All
import OpenK.AllK
import Wide.FinOn
import HandS.Base
import HandS.Call
import HandS.List
import HandS.Comp
import HandS.Ends
import HandS.Dict
import HandS.Iter
import HandS.Text
import HandS.Words
import HandS.WordsList
import HandS.WordsDict
import HandS.IsInst
import HandS.Zip
import HandS.Conv
import HandS.Walk
import HandS.Style
import HandS.TupAny
import HandS.TupMul
import HandS.EndBits
import HandS.Codes
import KE.GoesMore
import HandS.SortKw
import HandS.TupSets
import KE.KDictDisplayH
import KE.DatumOrd
import HandS.Wide
import PyProof.ListStr
import PyProof.StrLawsRepr
import HandS.Exc
import HandS.ExcOwn
import HandS.WordsExc
import HandS.ExcIs
import KE.GoesZip
import HandS.Lambda
import KE.DataMinKey
import HandS.EndTab
import KE.KNest
import KE.GoesEnum
import HandS.Deep
import HandS.Rev
import PySem.Challenge.RW_opencalls_k60_worlds_with_rests
set_option Elab.async false
set_option linter.all false
set_option maxRecDepth 100000
namespace OC
open PySem PySem.Spec PyProof.Rows L2

/-! ### defs and their promises, by name -/
structure Df (K : PySem.W.Frag) (mg : Str → Option Value) (x : Str) (st : Stmt) (ps : List Str) : Prop where
  ex : ∃ (f : Addr) (fd : FuncData), Fun K x x st f fd ∧ Binds K fd ps [] ∧ mg x = some (.ref f)
structure Ok (P : Program) (w : World) (K : PySem.W.Frag) (mg : Str → Option Value) (base : Heap) (k : Nat) (x : Str) (ps : List Str) (sp : Sp) : Prop where
  ex : ∃ (f : Addr) (fd : FuncData), FnOk P w K mg base CX0 k f fd ps sp ∧ mg x = some (.ref f) ∧ PySem.W.keepIn K (.ref f) = true ∧ Binds K fd ps []
section
variable {P : Program} {w : World} {K : PySem.W.Frag} {mg : Str → Option Value} {base : Heap}
theorem Df.ok {x : Str} {st : Stmt} {N ps : List Str} {k : Nat} {sp : Sp} (D : Df K mg x st ps) (S : FnScope N ps (defScope st)) (len : ∀ vs H Q E, sp vs H Q E → vs.length = ps.length)
    (hbody : ∀ (f : Addr) (cdv : Value) (A : Around) (outer : List Env) (s : Shared) (H : Hp) (vs : List V) (Q : VK) (E : XK), Room k (A.deeper (envOfC x (defScope st) s.heap.objs.size f cdv)) → sp vs H Q E →
      ∃ t, PSs (cxOf CX0 P w K mg base N x (defScope st) f cdv A outer s H E).nox (defBody st) t ∧ t { nx := fun _ H' => Q .non H', rt := Q } (start N vs) H) : Ok P w K mg base (k + 1) x ps sp := by
  obtain ⟨f, fd, F, b, g⟩ := D.ex
  exact ⟨f, fd, F.ok S len (hbody f), g, F.kp, b⟩
theorem Ok.mono {x : Str} {ps : List Str} {j k : Nat} {sp : Sp} (O : Ok P w K mg base j x ps sp) (h : j ≤ k) : Ok P w K mg base k x ps sp := by
  obtain ⟨f, fd, F, r⟩ := O.ex
  exact ⟨f, fd, F.mono h, r⟩
theorem Ok.imp {x : Str} {ps : List Str} {k : Nat} {sp sp' : Sp} (O : Ok P w K mg base k x ps sp) (h : ∀ vs H Q E, sp' vs H Q E → sp vs H Q E) : Ok P w K mg base k x ps sp' := by
  obtain ⟨f, fd, F, r⟩ := O.ex
  exact ⟨f, fd, F.imp h, r⟩
end
section
variable {X : Cx} {x : Str} {ps : List Str} {k : Nat} {sp : Sp}
theorem pe_callO {e : Expr} {es : List Expr} {t : TA} {p pos : Pos} (O : Ok X.prog X.w X.K X.mg X.base k x ps sp) (hr : Room k X.A) (hg : Gl X x) (ha : PA X (e :: es) t) (hdb : (x == ("__debug__" : Str)) = false := by decide)
    (he : starEach (e :: es) X.env = (false, eval e X.env) :: starEach es X.env := by rfl) (hpl : (backTo pos (starEach es X.env)).any (·.1) = false := by rfl) :
    PE X (.Call (.Name x p) (e :: es) [] pos) (tCall sp [] E0 t) := by
  obtain ⟨f, fd, F, g, kp, b⟩ := O.ex
  exact pe_call F hr hg g kp b .nil pass0 ha hdb he hpl
theorem pe_callO0 {p pos : Pos} (O : Ok X.prog X.w X.K X.mg X.base k x ps sp) (hr : Room k X.A) (hg : Gl X x) (hdb : (x == ("__debug__" : Str)) = false := by decide) :
    PE X (.Call (.Name x p) [] [] pos) (tCall sp [] E0 tNil) := by
  obtain ⟨f, fd, F, g, kp, b⟩ := O.ex
  exact pe_call0 F hr hg g kp b .nil pass0 hdb
end
/-! ### from the head's facts -/
theorem df_of {K : PySem.W.Frag} {h : Heap} {mg : Str → Option Value} {x : Str} {st : Stmt} {ps : List Str} {f : Addr} {oc : Value} {od an : Option Addr} {osl : Array (Option Value)} {kV doc pm cdv ct : Value} (X : K.In h) (G : h.Ns mainGlobals mg)
    (a : PySem.W.nsIn K mainGlobals x = some (some (.ref f)))
    (l : K.lookup f = some ⟨oc, od, .func (PySem.W.fnOf x x (defArgs st) (defBody st) (defScope st) .none kV doc pm an cdv ct), osl⟩)
    (c : PySem.W.codeIn K cdv x = true) (k : PySem.W.keepIn K (.ref f) = true)
    (hb : ∀ (kV doc pm : Value) (an : Option Addr) (cdv ct : Value) (us : List Value), us.length = ps.length → bindArgs (PySem.W.fnOf x x (defArgs st) (defBody st) (defScope st) .none kV doc pm an cdv ct) ⟨us, []⟩ = pure (ps.zip us)) :
    Df K mg x st ps := by
  have F := fun_mk (st := st) l c k
  exact ⟨f, _, F, F.binds hb, PySem.W.mg_of X G a⟩
end OC

set_option Elab.async false
set_option linter.all false
set_option maxRecDepth 100000
namespace OC
open PySem PySem.Spec PyProof.Rows L2

/-! ### kinds of values -/
inductive Kd where
  | non | bl | int | str | lst | tup | dct
  deriving DecidableEq
def Kd.name : Kd → String
  | .non => "NoneType" | .bl => "bool" | .int => "int" | .str => "str" | .lst => "list" | .tup => "tuple" | .dct => "dict"
def KdOf (K : PySem.W.Frag) (H : Hp) (v : V) (k : Kd) : Prop := TyX K H v (.type k.name)
section
variable {K : PySem.W.Frag} {H : Hp}
theorem kd_int (i : Int) : KdOf K H (.int i) .int := .base (.int i)
theorem kd_bl (b : Bool) : KdOf K H (.bl b) .bl := .base (.bl b)
theorem kd_non : KdOf K H .non .non := .base .non
theorem kd_str (x : Str) : KdOf K H (.str x) .str := .base (.str x)
theorem kd_tup {a : Addr} {xs : List V} (h : SqT K H a xs) : KdOf K H (.ref a) .tup := by
  rcases h with (h | ⟨o, h⟩) | ⟨o, its, n, h, c, _⟩
  · exact .base (.tup h)
  · exact .fTuple h
  · exact .kTuple h c
theorem kd_lst {a : Addr} {xs : List V} (h : SqL K H a xs) : KdOf K H (.ref a) .lst := by
  rcases h with (h | ⟨o, h⟩) | ⟨o, its, n, h, c, _⟩
  · exact .base (.lst h)
  · exact .base (.frz h)
  · exact .kList h c
theorem kd_dct {a : Addr} {kvs : List (Key × V)} (h : H a = some (.dK kvs)) : KdOf K H (.ref a) .dct := .base (.dK h)
theorem kit_int (k : Kd) : PySem.W.kitOne K (.type k.name) (.type "int") = some (decide (k = .int) || decide (k = .bl)) := by
  cases k <;> exact kit_ty (by decide +kernel)
theorem kit_bool (k : Kd) : PySem.W.kitOne K (.type k.name) (.type "bool") = some (decide (k = .bl)) := by
  cases k <;> exact kit_ty (by decide +kernel)
theorem kit_tuple (k : Kd) : PySem.W.kitOne K (.type k.name) (.type "tuple") = some (decide (k = .tup)) := by
  cases k <;> exact kit_ty (by decide +kernel)
theorem kit_str (k : Kd) : PySem.W.kitOne K (.type k.name) (.type "str") = some (decide (k = .str)) := by
  cases k <;> exact kit_ty (by decide +kernel)
theorem kd_is_int {v : V} {k : Kd} (h : KdOf K H v k) (e : k = .int) : ∃ i, v = .int i := by
  subst e
  generalize hx : (Value.type (Kd.name .int)) = t at h
  unfold KdOf at h
  rw [hx] at h
  cases h with
  | base h => cases h with
    | int i => exact ⟨i, rfl⟩
    | ins => cases hx
    | _ => exact absurd (Value.type.inj hx) (by decide)
  | _ => exact absurd (Value.type.inj hx) (by decide)
end

/-! ### heaps -/
theorem same_upd {H : Hp} {p : Addr} {o : HO} (h : H p = none) : Same H (upd H p o) := fun b x e => by
  rw [upd_ne (ne_of_none e h)]
  exact e
theorem same_mut {H H' : Hp} {p : Addr} {o : HO} (e : Same H H') (h : H p = none) : Same H (upd H' p o) := fun b x q => by
  rw [upd_ne (ne_of_none q h)]
  exact e b x q
theorem Same.tup {K : PySem.W.Frag} {H H' : Hp} {a : Addr} {xs : List V} (e : Same H H') (h : SqT K H a xs) : SqT K H' a xs := by
  rcases h with (h | ⟨o, h⟩) | h
  · exact .inl (.inl (e _ _ h))
  · exact .inl (.inr ⟨o, e _ _ h⟩)
  · exact .inr h
/-- all but the deck's two lists stays -/
def Kept (d c : Addr) (H H' : Hp) : Prop := ∀ b o, H b = some o → b ≠ d → b ≠ c → H' b = some o
theorem Kept.refl (d c : Addr) (H : Hp) : Kept d c H H := fun _ _ h _ _ => h
theorem Kept.trans {d c : Addr} {H H1 H2 : Hp} (a : Kept d c H H1) (b : Kept d c H1 H2) : Kept d c H H2 := fun x o h n m => b x o (a x o h n m) n m
theorem Kept.of {d c : Addr} {H H' : Hp} (a : Same H H') : Kept d c H H' := fun x o h _ _ => a x o h
/-- the deck: a list of the cells' list and the count of draws -/
structure Deck (H : Hp) (d c : Addr) (t : Int) : Prop where
  hd : H d = some (.lst [.ref c, .int t])
  hc : ∃ cells : List Int, H c = some (.lst (cells.map V.int)) ∧ (∀ x ∈ cells, 0 ≤ x) ∧ cells.length ≤ 63
  ne : c ≠ d
  t0 : 0 ≤ t
theorem Deck.same {H H' : Hp} {d c : Addr} {t : Int} (D : Deck H d c t) (s : Same H H') : Deck H' d c t := by
  obtain ⟨hd, ⟨cells, h1, h2⟩, n, t0⟩ := D
  exact ⟨s _ _ hd, ⟨cells, s _ _ h1, h2⟩, n, t0⟩
theorem Kept.tup {K : PySem.W.Frag} {d c : Addr} {t : Int} {H H' : Hp} {a : Addr} {xs : List V} (D : Deck H d c t) (e : Kept d c H H') (h : SqT K H a xs) : SqT K H' a xs := by
  obtain ⟨hd, ⟨cells, h1, h2⟩, n, t0⟩ := D
  rcases h with (h | ⟨o, h⟩) | h
  · exact .inl (.inl (e _ _ h (fun z => by subst z; rw [hd] at h; cases h) (fun z => by subst z; rw [h1] at h; cases h)))
  · exact .inl (.inr ⟨o, e _ _ h (fun z => by subst z; rw [hd] at h; cases h) (fun z => by subst z; rw [h1] at h; cases h)⟩)
  · exact .inr h
theorem at_int {xs : List Int} {z : Int} (h0 : 0 ≤ z) (h1 : z < (xs.length : Int)) : ∃ x, x ∈ xs ∧ xs[z.toNat]? = some x ∧ atI (xs.map V.int) z = some (.int x) := by
  have hl : z.toNat < xs.length := by omega
  refine ⟨xs[z.toNat], List.getElem_mem hl, List.getElem?_eq_getElem hl, ?_⟩
  refine at_of (j := z.toNat) (by omega) ?_
  rw [List.getElem?_map, List.getElem?_eq_getElem hl]
  rfl
theorem ix_nat {n : Nat} {z : Int} (h0 : 0 ≤ z) (h1 : z < (n : Int)) : ixN n z = some z.toNat := by
  unfold ixN
  rw [if_pos h0, if_pos h1]
theorem in_ints (i : Int) (xs : List Int) : inV (.int i) (xs.map V.int) = decide (i ∈ xs) := by
  unfold inV
  induction xs with
  | nil => simp
  | cons x r ih =>
    rw [List.map_cons, List.any_cons, ih]
    by_cases e : x = i
    · subst e; simp [eqV]
    · have : ¬ i = x := fun q => e q.symm
      simp [eqV, e, this]
end OC

set_option Elab.async false
set_option linter.all false
set_option maxRecDepth 100000
namespace OC
open PySem PySem.Spec PyProof.Rows L2

/-! ### readings by name -/
def rLenQ (K : PySem.W.Frag) : List V → Hp → VK → Prop := fun xs H Q => ∃ p ys, xs = [.ref p] ∧ (SqL K H p ys ∨ SqT K H p ys) ∧ Q (.int ys.length) H
def rListQ (K : PySem.W.Frag) : List V → Hp → VK → Prop := fun xs H Q => ∃ p ys, xs = [.ref p] ∧ (SqL K H p ys ∨ SqT K H p ys) ∧ ∀ l, H l = none → Q (.ref l) (upd H l (.lst ys))
def rTupQ (K : PySem.W.Frag) : List V → Hp → VK → Prop := fun xs H Q => ∃ p ys, xs = [.ref p] ∧ ((SqL K H p ys ∧ ∀ l, H l = none → Q (.ref l) (upd H l (.tup ys))) ∨ (SqT K H p ys ∧ Q (.ref p) H))
/-! ### data kept -/
mutual
theorem dp_same {K : PySem.W.Frag} {H H' : Hp} (e : Same H H') : ∀ (d : PyData) (v : V), Dp K H v d → Dp K H' v d
  | .none, _, h => by cases h; exact .non
  | .bool b, _, h => by cases h; exact .bl b
  | .int i, _, h => by cases h; exact .int i
  | .str x, _, h => by cases h; exact .str x
  | .list ds, _, h => by
    cases h with
    | lst hs ha => exact .lst (e.seq hs) (dpAll_same e ds _ ha)
  | .tuple ds, _, h => by
    cases h with
    | tup hs ha => exact .tup (Same.tup e hs) (dpAll_same e ds _ ha)
  | .dict _, _, h => by cases h
theorem dpAll_same {K : PySem.W.Frag} {H H' : Hp} (e : Same H H') : ∀ (ds : List PyData) (vs : List V), DpAll K H vs ds → DpAll K H' vs ds
  | [], _, h => by cases h; exact .nil
  | d :: ds, _, h => by
    cases h with
    | cons h1 h2 => exact .cons (dp_same e d _ h1) (dpAll_same e ds _ h2)
end
theorem dpAll_len {K : PySem.W.Frag} {H : Hp} : ∀ {vs : List V} {ds : List PyData}, DpAll K H vs ds → vs.length = ds.length
  | _, _, .nil => rfl
  | _, _, .cons _ t => by rw [List.length_cons, List.length_cons, dpAll_len t]
theorem dpAll_get {K : PySem.W.Frag} {H : Hp} : ∀ {vs : List V} {ds : List PyData} {i : Nat} {v : V}, DpAll K H vs ds → vs[i]? = some v → ∃ d, ds[i]? = some d ∧ d ∈ ds ∧ Dp K H v d
  | _, _, i, v, .nil, e => by simp at e
  | _, _, 0, v, .cons h t, e => by
    have e : _ = v := Option.some.inj e
    subst e
    exact ⟨_, rfl, List.mem_cons_self, h⟩
  | _, _, i + 1, v, .cons h t, e => by
    obtain ⟨d, h1, h2, h3⟩ := dpAll_get (i := i) (v := v) t e
    exact ⟨d, h1, List.mem_cons_of_mem _ h2, h3⟩
theorem dpAll_ints {K : PySem.W.Frag} {H : Hp} : ∀ ns : List Int, DpAll K H (ns.map V.int) (ns.map PyData.int)
  | [] => .nil
  | n :: r => .cons (.int n) (dpAll_ints r)
theorem dpAll_nth {K : PySem.W.Frag} {H : Hp} : ∀ {vs : List V} {ds : List PyData}, vs.length = ds.length → (∀ (i : Nat) (v : V) (d : PyData), vs[i]? = some v → ds[i]? = some d → Dp K H v d) → DpAll K H vs ds
  | [], [], _, _ => .nil
  | [], _ :: _, e, _ => by cases e
  | _ :: _, [], e, _ => by cases e
  | v :: vs, d :: ds, e, h => .cons (h 0 v d rfl rfl) (dpAll_nth (Nat.succ.inj e) fun i v d h1 h2 => h (i + 1) v d h1 h2)

/-! ### any thing, with dicts: its kind -/
def keyD : Key → PyData
  | .inl i => .int i
  | .inr x => .str x
def flD : V → PyData
  | .bl b => .bool b | .int i => .int i | .str x => .str x | _ => .none
def flOk : V → Bool
  | .non => true | .bl _ => true | .int _ => true | .str _ => true | _ => false
mutual
inductive Rep (K : PySem.W.Frag) (H : Hp) (bad : Addr → Prop) : V → PyData → Prop
  | non : Rep K H bad .non .none
  | bl (b : Bool) : Rep K H bad (.bl b) (.bool b)
  | int (i : Int) : Rep K H bad (.int i) (.int i)
  | str (x : Str) : Rep K H bad (.str x) (.str x)
  | lst {a : Addr} {xs : List V} {ds : List PyData} : H a = some (.lst xs) → ¬ bad a → RepAll K H bad xs ds → Rep K H bad (.ref a) (.list ds)
  | tup {a : Addr} {xs : List V} {ds : List PyData} : SqT K H a xs → RepAll K H bad xs ds → Rep K H bad (.ref a) (.tuple ds)
  | dct {a : Addr} {kvs : List (Key × V)} : H a = some (.dK kvs) → (kvs.all fun p => flOk p.2) = true → Rep K H bad (.ref a) (.dict (kvs.map fun p => (keyD p.1, flD p.2)))
inductive RepAll (K : PySem.W.Frag) (H : Hp) (bad : Addr → Prop) : List V → List PyData → Prop
  | nil : RepAll K H bad [] []
  | cons {v : V} {vs : List V} {d : PyData} {ds : List PyData} : Rep K H bad v d → RepAll K H bad vs ds → RepAll K H bad (v :: vs) (d :: ds)
end
def kdOf : PyData → Kd
  | .none => .non | .bool _ => .bl | .int _ => .int | .str _ => .str | .list _ => .lst | .tuple _ => .tup | .dict _ => .dct
section
variable {K : PySem.W.Frag} {H : Hp} {bad : Addr → Prop}
theorem Rep.kd : ∀ {v : V} {d : PyData}, Rep K H bad v d → KdOf K H v (kdOf d)
  | _, _, .non => kd_non
  | _, _, .bl b => kd_bl b
  | _, _, .int i => kd_int i
  | _, _, .str x => kd_str x
  | _, _, .lst h _ _ => kd_lst (.inl (.inl h))
  | _, _, .tup h _ => kd_tup h
  | _, _, .dct h _ => kd_dct h
theorem repAll_len : ∀ {vs : List V} {ds : List PyData}, RepAll K H bad vs ds → vs.length = ds.length
  | _, _, .nil => rfl
  | _, _, .cons _ t => by rw [List.length_cons, List.length_cons, repAll_len t]
theorem repAll_get : ∀ {vs : List V} {ds : List PyData} {i : Nat} {v : V}, RepAll K H bad vs ds → vs[i]? = some v → ∃ d, ds[i]? = some d ∧ d ∈ ds ∧ Rep K H bad v d
  | _, _, i, v, .nil, e => by simp at e
  | _, _, 0, v, .cons h t, e => by
    have e : _ = v := Option.some.inj e
    subst e
    exact ⟨_, rfl, List.mem_cons_self, h⟩
  | _, _, i + 1, v, .cons h t, e => by
    obtain ⟨d, h1, h2, h3⟩ := repAll_get (i := i) (v := v) t e
    exact ⟨d, h1, List.mem_cons_of_mem _ h2, h3⟩
theorem repAll_append : ∀ {xs ys : List V} {ds es : List PyData}, RepAll K H bad xs ds → RepAll K H bad ys es → RepAll K H bad (xs ++ ys) (ds ++ es)
  | _, _, _, _, .nil, h => h
  | _, _, _, _, .cons h t, g => .cons h (repAll_append t g)
theorem repAll_ints : ∀ ns : List Int, RepAll K H bad (ns.map V.int) (ns.map PyData.int)
  | [] => .nil
  | n :: r => .cons (.int n) (repAll_ints r)
end
/-! ### tuples stay -/
def Tk (H H' : Hp) : Prop := ∀ (K : PySem.W.Frag) (a : Addr) (xs : List V), SqT K H a xs → SqT K H' a xs
theorem Tk.refl (H : Hp) : Tk H H := fun _ _ _ h => h
theorem Tk.trans {H H1 H2 : Hp} (a : Tk H H1) (b : Tk H1 H2) : Tk H H2 := fun K x xs h => b K x xs (a K x xs h)
theorem Tk.of {H H' : Hp} (s : Same H H') : Tk H H' := fun _ _ _ h => Same.tup s h
theorem Tk.kept {d c : Addr} {t : Int} {H H' : Hp} (D : Deck H d c t) (k : Kept d c H H') : Tk H H' := fun _ _ _ h => Kept.tup D k h
theorem Tk.mut {H H' : Hp} {D : Addr} {xs ys : List V} (k : Tk H H') (h : H' D = some (.lst xs)) : Tk H (upd H' D (.lst ys)) := fun K a zs q => by
  rcases k K a zs q with (q | ⟨o, q⟩) | q
  · refine .inl (.inl ?_)
    rw [upd_ne (fun z => by subst z; rw [h] at q; cases q)]
    exact q
  · refine .inl (.inr ⟨o, ?_⟩)
    rw [upd_ne (fun z => by subst z; rw [h] at q; cases q)]
    exact q
  · exact .inr q
theorem Tk.new {H H' : Hp} {D : Addr} {o : HO} (k : Tk H H') (h : H' D = none) : Tk H (upd H' D o) := k.trans (Tk.of (same_upd h))
/-- what stays of things: tuples and dicts all, lists but the bad ones -/
structure Stays (bad : Addr → Prop) (H H' : Hp) : Prop where
  t : Tk H H'
  d : ∀ a kvs, H a = some (.dK kvs) → H' a = some (.dK kvs)
  l : ∀ a xs, H a = some (.lst xs) → ¬ bad a → H' a = some (.lst xs)
theorem Stays.of {bad : Addr → Prop} {H H' : Hp} (s : Same H H') : Stays bad H H' := ⟨Tk.of s, fun _ _ h => s _ _ h, fun _ _ h _ => s _ _ h⟩
theorem Stays.trans {bad : Addr → Prop} {H H1 H2 : Hp} (a : Stays bad H H1) (b : Stays bad H1 H2) : Stays bad H H2 := ⟨a.t.trans b.t, fun x y h => b.d x y (a.d x y h), fun x y h n => b.l x y (a.l x y h n) n⟩
theorem Stays.kept {d c : Addr} {t : Int} {H H' : Hp} (D : Deck H d c t) (k : Kept d c H H') : Stays (fun a => a = d ∨ a = c) H H' := by
  refine ⟨Tk.kept D k, fun a xs h => k a _ h (fun z => ?_) (fun z => ?_), fun a xs h nb => k a _ h (fun z => nb (.inl z)) (fun z => nb (.inr z))⟩
  · subst z; rw [D.hd] at h; cases h
  · obtain ⟨cells, h1, _⟩ := D.hc
    subst z; rw [h1] at h; cases h
mutual
theorem rep_stays {K : PySem.W.Frag} {bad : Addr → Prop} {H H' : Hp} (e : Stays bad H H') : ∀ (d : PyData) (v : V), Rep K H bad v d → Rep K H' bad v d
  | .none, _, h => by cases h; exact .non
  | .bool b, _, h => by cases h; exact .bl b
  | .int i, _, h => by cases h; exact .int i
  | .str x, _, h => by cases h; exact .str x
  | .list ds, _, h => by
    cases h with
    | lst hs hb ha => exact .lst (e.l _ _ hs hb) hb (repAll_stays e ds _ ha)
  | .tuple ds, _, h => by
    cases h with
    | tup hs ha => exact .tup (e.t _ _ _ hs) (repAll_stays e ds _ ha)
  | .dict _, _, h => by
    cases h with
    | dct hs hf => exact .dct (e.d _ _ hs) hf
theorem repAll_stays {K : PySem.W.Frag} {bad : Addr → Prop} {H H' : Hp} (e : Stays bad H H') : ∀ (ds : List PyData) (vs : List V), RepAll K H bad vs ds → RepAll K H' bad vs ds
  | [], _, h => by cases h; exact .nil
  | d :: ds, _, h => by
    cases h with
    | cons h1 h2 => exact .cons (rep_stays e d _ h1) (repAll_stays e ds _ h2)
end

/-! ### zip of two tuples, walked -/
theorem walk_zipT {K : PySem.W.Frag} {a b : Addr} {xs ys : List V} {n : Nat} (hn : n = min xs.length ys.length) : Walk (RZ.ItzT K a b) n (fun H => SqT K H a xs ∧ SqT K H b ys) (YPair (fun i => xs[i]?) (fun i => ys[i]?)) where
  goes i H hi q := by
    have hx : i < xs.length := by rw [hn] at hi; exact Nat.lt_of_lt_of_le hi (Nat.min_le_left _ _)
    have hy : i < ys.length := by rw [hn] at hi; exact Nat.lt_of_lt_of_le hi (Nat.min_le_right _ _)
    exact ⟨xs, ys, _, _, q.1, q.2, List.getElem?_eq_getElem hx, List.getElem?_eq_getElem hy⟩
  stops H q := ⟨xs, ys, q.1, q.2, by rw [hn]; omega⟩
  yields i H v H' _ q y := by
    obtain ⟨T, x, z, ev, nT, eH, gx, gz⟩ := y
    exact ⟨T, x, z, ev, nT, eH, gx xs q.1, gz ys q.2⟩

/-! ### the same: two things of one data -/
/-- a thing that is no tuple -/
def Sc : PyData → Prop
  | .none => True | .bool _ => True | .int _ => True | .str _ => True | _ => False
def Lv (L : PyData → Prop) (d : PyData) : Prop := Sc d ∨ ∃ ds, d = .tuple ds ∧ ds.length ≤ 1000 ∧ ∀ x ∈ ds, L x
def sp_same (K : PySem.W.Frag) (L : PyData → Prop) : Sp := fun vs H Q _ => ∃ (v u : V) (d : PyData), vs = [v, u] ∧ Dp K H v d ∧ Dp K H u d ∧ L d ∧ ∀ H', Same H H' → Q (.bl true) H'
/-- no call of it is promised anything -/
theorem ok_never {P : Program} {w : World} {K : PySem.W.Frag} {mg : Str → Option Value} {base : Heap} {x : Str} {st : Stmt} {N ps : List Str} (D : Df K mg x st ps) (S : FnScope N ps (defScope st)) (L : PyData → Prop) (hL : ∀ d, ¬ L d) (hp : ps.length = 2) : Ok P w K mg base 1 x ps (sp_same K L) :=
  D.ok S (fun vs H Q E h => by obtain ⟨v, u, d, rfl, _⟩ := h; exact hp.symm) fun f cdv A outer s H vs Q E hr h => by
    obtain ⟨v, u, d, _, _, _, h, _⟩ := h
    exact (hL d h).elim
/-- the kind of data -/
theorem dp_kd {K : PySem.W.Frag} {H : Hp} : ∀ {v : V} {d : PyData}, Dp K H v d → KdOf K H v (kdOf d)
  | _, _, .non => kd_non
  | _, _, .bl b => kd_bl b
  | _, _, .int i => kd_int i
  | _, _, .str x => kd_str x
  | _, _, .lst h _ => kd_lst h
  | _, _, .tup h _ => kd_tup h
end OC

set_option Elab.async false
set_option linter.all false
set_option maxRecDepth 100000
set_option maxHeartbeats 2000000
namespace OC
open PySem PySem.Spec PyProof.Rows L2
/-! ### a tuple taken once is itself -/
theorem tuple_mul1 (l : Addr) (its : Array Value) (m : Nat) (od : Option Addr) (so : Array (Option Value)) (u : Tok) :
    Meets (Builtin.«tuple.__mul__» ⟨[.ref l, .int 1 u], []⟩) (fun _ R s => s.heap.get? l = some { cls := .type "tuple", dict := od, data := .seq its m, slots := so } ∧ R (.ok (.ret (Value.ref l))) s) := by
  refine .of_wp fun prog w A R s hh => ?_
  obtain ⟨hp, g, d, tk, os⟩ := s
  obtain ⟨hl, hR⟩ := hh
  have fi := AutoSeq1.idx_int
  have c0 : (decide ((1 : Int) < -(2 ^ 63)) || decide ((1 : Int) ≥ 2 ^ 63)) = false := by decide
  have c1 : (its.isEmpty || (1 : Int) == 1) = true := by simp
  wp_walk using wpAny_loadPart' hl
  exact ⟨_, rfl, hR⟩
/-- t * n: a new tuple, or for n = 1 the same -/
def rRepA (K : PySem.W.Frag) : R2 := fun x y H Q => ∃ l k xs, x = .ref l ∧ y = .int k ∧ SqT K H l xs ∧ xs ≠ [] ∧ 1 ≤ k ∧ k ≤ 1000 ∧ xs.length ≤ 1000 ∧ (k = 1 → Q (.ref l) H) ∧ (2 ≤ k → ∀ p, H p = none → Q (.ref p) (upd H p (.tup (List.replicate k.toNat xs).flatten)))
theorem op_repA {X : Cx} : OpR X (binaryOp .Mult) (rRepA X.K) := by
  intro pins s σ H x y v u Q I rx ry h
  obtain ⟨l, k, xs, ex, ey, hT, hne, h1, h2, hz, q1, q2⟩ := h
  by_cases hk : k = 1
  · subst hk ex ey
    have q := q1 rfl
    cases rx
    obtain ⟨t, rfl⟩ := ry
    obtain ⟨its, r, ⟨⟨cls, dd, data, sl⟩, ho, hc, n, hd⟩, hs⟩ := I.tuple hT
    simp only at hc hd
    subst hc hd
    refine wpAny_binaryOp_repeat_ref (T := "tuple") (U := "int") (by decide) ⟨_, ho, rfl⟩ (fun s' => typeIs_int s' 1 t) noFill_tuple_mul F.fills_int_mul F.slot_int_rmul repeat_tuple F.slot_int_index.lookup ?_
    refine call_meets F.slot_int_rmul (typeIs_int s 1 t) F.entry_int_rmul (F.args_int_rmul_2 _ _) (int_rmul_tuple 1 t l its.toArray n dd sl) ⟨ho, rfl, ⟨_, ho, rfl⟩, ?_⟩
    exact call_meets F.slot_tuple_mul ⟨_, ho, rfl⟩ F.entry_tuple_mul (F.args_tuple_mul_2 _ _) (tuple_mul1 l its.toArray n dd sl t) ⟨ho, .ref l, H, I, rfl, q⟩
  · exact op_repT pins s σ H x y v u Q I rx ry ⟨l, k, xs, ex, ey, hT, hne, by omega, h2, hz, q2 (by omega)⟩
/-- the same, whichever tuple it is -/
def rRepB (K : PySem.W.Frag) : R2 := fun x y H Q => ∃ l k xs, x = .ref l ∧ y = .int k ∧ SqT K H l xs ∧ xs ≠ [] ∧ 1 ≤ k ∧ k ≤ 1000 ∧ xs.length ≤ 1000 ∧ ∀ p H', Same H H' → SqT K H' p (List.replicate k.toNat xs).flatten → Q (.ref p) H'
theorem op_repB {X : Cx} : OpR X (binaryOp .Mult) (rRepB X.K) := by
  intro pins s σ H x y v u Q I rx ry h
  obtain ⟨l, k, xs, ex, ey, hT, hne, h1, h2, hz, q⟩ := h
  refine op_repA pins s σ H x y v u Q I rx ry ⟨l, k, xs, ex, ey, hT, hne, h1, h2, hz, fun hk => q l H (Same.refl H) ?_, fun _ p np => q p _ (same_upd np) (.inl (.inl upd_same))⟩
  subst hk
  rw [show ((1 : Int).toNat) = 1 from rfl, List.replicate_one, List.flatten_cons, List.flatten_nil, List.append_nil]
  exact hT
theorem rep_int (n : Nat) (x : Int) : (List.replicate n [V.int x]).flatten = (List.replicate n x).map V.int := by
  induction n with
  | zero => rfl
  | succ n ih => rw [List.replicate_succ, List.flatten_cons, ih, List.replicate_succ]; rfl
end OC

set_option Elab.async false
set_option linter.all false
set_option maxRecDepth 100000
namespace OC
open PySem PySem.Spec PyProof.Rows L2

theorem new_of {H H' : Hp} {p : Addr} {o : HO} (h : upd H p o = H') (n : H p = none) : Same H H' ∧ H' p = some o := by
  subst h
  exact ⟨same_upd n, upd_same⟩
/-- a name that holds a list or a tuple, walked while G' holds -/
def iSeqV (K : PySem.W.Frag) (i : Nat) : TI := fun σ H R => ∃ (a : Addr) (xs : List V) (G' : Hp → Prop), σ[i]? = some (some (.ref a)) ∧ G' H ∧ ((∀ H', G' H' → SqL K H' a xs) ∨ (∀ H', G' H' → SqT K H' a xs)) ∧ ∀ J, Walk J xs.length G' (YAt xs) → R J H
theorem pi_seqv {X : Cx} {tg : Expr} {x : Str} {pos : Pos} (i : Nat) (he : PE X (.Name x pos) (tVar i)) : PI X tg (.Name x pos) (iSeqV X.K i) := by
  refine ⟨fun pins s σ H R I h => ?_⟩
  obtain ⟨a, xs, G', hs, hg, hq, r⟩ := h
  rcases hq with hq | hq
  · exact (pi_list he).run pins s σ H R I ⟨.ref a, hs, a, rfl, ⟨xs, hq H hg⟩, r _ (walk_list.mono hq fun _ _ _ _ _ _ y => y)⟩
  · exact (pi_tup he).run pins s σ H R I ⟨.ref a, hs, a, rfl, ⟨xs, hq H hg⟩, r _ (walk_tup.mono hq fun _ _ _ _ _ _ y => y)⟩
theorem sz1000 {n : Nat} (h : n ≤ 1000) : n ≤ sizeLine := Nat.le_of_lt (small1000 h)

mutual
def noL : PyData → Bool
  | .none => true | .bool _ => true | .int _ => true | .str _ => true | .list _ => false | .tuple ds => noLAll ds | .dict _ => false
def noLAll : List PyData → Bool
  | [] => true
  | d :: ds => noL d && noLAll ds
end
mutual
theorem dp_tk {K : PySem.W.Frag} {H H' : Hp} (e : Tk H H') : ∀ (d : PyData) (v : V), noL d = true → Dp K H v d → Dp K H' v d
  | .none, _, _, h => by cases h; exact .non
  | .bool b, _, _, h => by cases h; exact .bl b
  | .int i, _, _, h => by cases h; exact .int i
  | .str x, _, _, h => by cases h; exact .str x
  | .list ds, _, n, h => by simp [noL] at n
  | .tuple ds, _, n, h => by
    cases h with
    | tup hs ha => exact .tup (e K _ _ hs) (dpAll_tk e ds _ (by simpa [noL] using n) ha)
  | .dict _, _, _, h => by cases h
theorem dpAll_tk {K : PySem.W.Frag} {H H' : Hp} (e : Tk H H') : ∀ (ds : List PyData) (vs : List V), noLAll ds = true → DpAll K H vs ds → DpAll K H' vs ds
  | [], _, _, h => by cases h; exact .nil
  | d :: ds, _, n, h => by
    have n' : noL d = true ∧ noLAll ds = true := by simpa [noLAll] using n
    cases h with
    | cons h1 h2 => exact .cons (dp_tk e d _ n'.1 h1) (dpAll_tk e ds _ n'.2 h2)
end
/-! ### rows as data -/
def rowD (r : List Int) : PyData := .tuple (r.map PyData.int)
theorem noL_ints : ∀ r : List Int, noLAll (r.map PyData.int) = true
  | [] => by simp [noLAll]
  | n :: r => by simp [noLAll, noL, noL_ints r]
theorem noL_row (r : List Int) : noL (rowD r) = true := by
  unfold rowD
  rw [noL]
  exact noL_ints r
theorem noL_rows : ∀ rs : List (List Int), noLAll (rs.map rowD) = true
  | [] => by simp [noLAll]
  | r :: rs => by simp [noLAll, noL_row, noL_rows rs]
theorem lay_ints : ∀ ns : List Int, PyData.canLayAll0 (ns.map PyData.int) = true
  | [] => by simp only [List.map_nil, PyData.canLayAll0]
  | n :: r => by simp only [List.map_cons, PyData.canLayAll0, PyData.canLay0, lay_ints r, Bool.and_self]
theorem depth_ints : ∀ ns : List Int, PyData.depthAll (ns.map PyData.int) = 0
  | [] => by simp only [List.map_nil, PyData.depthAll]
  | n :: r => by simp only [List.map_cons, PyData.depthAll, PyData.depth, depth_ints r, Nat.max_self]
theorem lay_rows : ∀ rs : List (List Int), PyData.canLayAll0 (rs.map rowD) = true
  | [] => by simp only [List.map_nil, PyData.canLayAll0]
  | r :: rs => by simp only [List.map_cons, PyData.canLayAll0, rowD, PyData.canLay0, lay_ints r, lay_rows rs, Bool.and_self]
theorem depth_rows : ∀ rs : List (List Int), PyData.depthAll (rs.map rowD) ≤ 1
  | [] => by simp only [List.map_nil, PyData.depthAll]; omega
  | r :: rs => by
    have := depth_rows rs
    simp only [List.map_cons, PyData.depthAll, rowD, PyData.depth, depth_ints r]
    omega
theorem shaped_ints (ns : List Int) : SeqAt.shaped (.list (ns.map PyData.int)) = true := by
  unfold SeqAt.shaped
  simp only [PyData.canLay0, lay_ints, PyData.depth, depth_ints, Bool.true_and]
  rfl
theorem shaped_row (ns : List Int) : SeqAt.shaped (rowD ns) = true := by
  unfold SeqAt.shaped rowD
  simp only [PyData.canLay0, lay_ints, PyData.depth, depth_ints, Bool.true_and]
  rfl
theorem shaped_lrows (rs : List (List Int)) : SeqAt.shaped (.list (rs.map rowD)) = true := by
  unfold SeqAt.shaped
  have := depth_rows rs
  simp only [PyData.canLay0, lay_rows, PyData.depth, Bool.true_and]
  exact decide_eq_true (by omega)
theorem shaped_trows (rs : List (List Int)) : SeqAt.shaped (.tuple (rs.map rowD)) = true := by
  unfold SeqAt.shaped
  have := depth_rows rs
  simp only [PyData.canLay0, lay_rows, PyData.depth, Bool.true_and]
  exact decide_eq_true (by omega)
theorem eqv_nil (ds : List PyData) : PyData.eqv (.list ds) (.list []) = decide (ds = []) := by
  cases ds with
  | nil => simp [PyData.eqv, PyData.eqvAll]
  | cons n r => simp [PyData.eqv, PyData.eqvAll]
theorem dpAll_int_inv {K : PySem.W.Frag} {H : Hp} : ∀ {xs : List V} {r : List Int}, DpAll K H xs (r.map PyData.int) → xs = r.map V.int
  | _, [], h => by cases h; rfl
  | _, n :: r, h => by
    cases h with
    | cons h1 h2 =>
      cases h1
      rw [dpAll_int_inv h2]
      rfl
theorem dp_row {K : PySem.W.Frag} {H : Hp} {v : V} {r : List Int} (h : Dp K H v (rowD r)) : ∃ a, v = .ref a ∧ SqT K H a (r.map V.int) := by
  unfold rowD at h
  cases h with
  | tup hs ha => exact ⟨_, rfl, (dpAll_int_inv ha) ▸ hs⟩
theorem row_dp {K : PySem.W.Frag} {H : Hp} {a : Addr} {r : List Int} (h : SqT K H a (r.map V.int)) : Dp K H (.ref a) (rowD r) := .tup h (dpAll_ints r)
theorem dpAll_append {K : PySem.W.Frag} {H : Hp} : ∀ {xs ys : List V} {ds es : List PyData}, DpAll K H xs ds → DpAll K H ys es → DpAll K H (xs ++ ys) (ds ++ es)
  | _, _, _, _, .nil, h => h
  | _, _, _, _, .cons h t, g => .cons h (dpAll_append t g)
theorem dpAll_row {K : PySem.W.Frag} {H : Hp} {vs : List V} {rs : List (List Int)} {i : Nat} {v : V} (h : DpAll K H vs (rs.map rowD)) (e : vs[i]? = some v) : ∃ a r, v = .ref a ∧ rs[i]? = some r ∧ r ∈ rs ∧ SqT K H a (r.map V.int) := by
  obtain ⟨d, g, _, hd⟩ := dpAll_get h e
  rw [List.getElem?_map] at g
  cases hr : rs[i]? with
  | none => rw [hr] at g; cases g
  | some r =>
    rw [hr] at g
    have ed : d = rowD r := (Option.some.inj g).symm
    subst ed
    obtain ⟨a, rfl, ha⟩ := dp_row hd
    exact ⟨a, r, rfl, rfl, List.mem_of_getElem? hr, ha⟩
/-- rests below p -/
def RowOk (p : Int) (r : List Int) : Prop := ∀ x ∈ r, 0 ≤ x ∧ x < p

/-! ### comprehensions of ints -/
def LcGoal (J : It) (g : TG) (tt : TT) (te : TE) (vs : List Nat) (σ : L2.St) (H : Hp) (Qd : Addr → Hp → Prop) : Prop := ∀ D, H D = none → ∃ W : Nat → Nat → Hp → Prop, (∃ m, W 0 m (upd H D (.lst []))) ∧ ∀ i m H, W i m H →
  (J.stop i H ∧ Qd D H) ∨ (J.go i H ∧ ∃ Nx : Hp → Prop, (∀ H', Nx H' → ∃ m', m' < m ∧ W (i + 1) m' H') ∧ ∀ x H', J.yld i H x H' → g x (wipe σ vs) H' fun σ2 H2 => wipe σ2 vs = wipe σ vs ∧ tt σ2 H2 fun b H3 =>
    if b = true then te σ2 H3 fun y H4 => ∃ acc, H4 D = some (.lst acc) ∧ acc.length < sizeLine ∧ Nx (upd H4 D (.lst (acc ++ [y]))) else Nx H3)
theorem lc_zipI {K : PySem.W.Frag} {a b : Addr} {xs ys : List Int} {σ : L2.St} {H : Hp} {Qd : Addr → Hp → Prop} {i j : Nat} {vs : List Nat} {te : TE} (f : Int → Int → Int) (hA : SqT K H a (xs.map V.int)) (hB : SqT K H b (ys.map V.int)) (hz : xs.length ≤ 1000)
    (hw : ∀ x y : Option V, wipe (((wipe σ vs).set i x).set j y) vs = wipe σ vs)
    (hte : ∀ (x y : Int) (H' : Hp) (Q' : VK), x ∈ xs → y ∈ ys → Same H H' → Q' (.int (f x y)) H' → te (((wipe σ vs).set i (some (.int x))).set j (some (.int y))) H' Q')
    (hd : ∀ D H', Same H H' → H D = none → H' D = some (.lst ((List.zipWith f xs ys).map V.int)) → Qd D H') :
    LcGoal (RZ.ItzT K a b) (gTup K 2 (gCons (gName i) (gCons (gName j) gNil))) tYes te vs σ H Qd := by
  intro D nD
  refine lc_it (walk_zipT (K := K) (a := a) (b := b) (xs := xs.map V.int) (ys := ys.map V.int) rfl) (fun k H' => Same H H' ∧ H' D = some (.lst (((List.zipWith f xs ys).take k).map V.int))) ⟨same_mut (Same.refl H) nD, upd_same⟩ (fun k H' _ hP => ⟨Same.tup hP.1 hA, Same.tup hP.1 hB⟩) (fun k x H1 H2 hk hP hY => ?_) (fun H' hP => hd D H' hP.1 nD ?_)
  · obtain ⟨Ta, x1, y1, rfl, nT, rfl, e1, e2⟩ := hY
    obtain ⟨sm, eD⟩ := hP
    have sT : Same H1 (upd H1 Ta (.tup [x1, y1])) := same_upd nT
    have e1 : (xs.map V.int)[k]? = some x1 := e1
    have e2 : (ys.map V.int)[k]? = some y1 := e2
    rw [List.getElem?_map] at e1 e2
    cases h1 : xs[k]? with
    | none => rw [h1] at e1; cases e1
    | some z1 =>
      cases h2 : ys[k]? with
      | none => rw [h2] at e2; cases e2
      | some z2 =>
        rw [h1] at e1
        rw [h2] at e2
        have q1 : x1 = V.int z1 := (Option.some.inj e1).symm
        have q2 : y1 = V.int z2 := (Option.some.inj e2).symm
        subst q1 q2
        refine ⟨Ta, [.int z1, .int z2], rfl, .inl (.inl upd_same), rfl, .int z1, [.int z2], rfl, .int z2, [], rfl, rfl, hw _ _, ?_⟩
        refine hte z1 z2 _ _ (List.mem_of_getElem? h1) (List.mem_of_getElem? h2) (sm.trans sT) ⟨_, sT _ _ eD, ?_, same_mut (sm.trans sT) nD, ?_⟩
        · rw [List.length_map, List.length_take, List.length_zipWith]
          exact small1000 (by omega)
        · rw [upd_same, List.take_add_one, List.getElem?_zipWith, h1, h2, List.map_append]
          rfl
  · obtain ⟨sm, eD⟩ := hP
    rw [eD, List.take_of_length_le]
    rw [List.length_zipWith, List.length_map, List.length_map]
    exact Nat.le_refl _
theorem lc_tupI {K : PySem.W.Frag} {a : Addr} {xs : List Int} {σ : L2.St} {H : Hp} {Qd : Addr → Hp → Prop} {i : Nat} {vs : List Nat} {te : TE} (f : Int → Int) (hA : SqT K H a (xs.map V.int)) (hz : xs.length ≤ 1000)
    (hw : ∀ x : Option V, wipe ((wipe σ vs).set i x) vs = wipe σ vs)
    (hte : ∀ (x : Int) (H' : Hp) (Q' : VK), x ∈ xs → Same H H' → Q' (.int (f x)) H' → te ((wipe σ vs).set i (some (.int x))) H' Q')
    (hd : ∀ D H', Same H H' → H D = none → H' D = some (.lst ((xs.map f).map V.int)) → Qd D H') :
    LcGoal (Itt K a) (gName i) tYes te vs σ H Qd := by
  intro D nD
  refine lc_it (walk_tup (K := K) (a := a) (xs := xs.map V.int)) (fun k H' => Same H H' ∧ H' D = some (.lst (((xs.map f).take k).map V.int))) ⟨same_mut (Same.refl H) nD, upd_same⟩ (fun k H' _ hP => Same.tup hP.1 hA) (fun k x H1 H2 hk hP hY => ?_) (fun H' hP => hd D H' hP.1 nD ?_)
  · obtain ⟨rfl, e1⟩ := hY
    obtain ⟨sm, eD⟩ := hP
    rw [List.getElem?_map] at e1
    cases h1 : xs[k]? with
    | none => rw [h1] at e1; cases e1
    | some z1 =>
      rw [h1] at e1
      have q1 : x = V.int z1 := (Option.some.inj e1).symm
      subst q1
      refine ⟨hw _, hte z1 _ _ (List.mem_of_getElem? h1) sm ⟨_, eD, ?_, same_mut sm nD, ?_⟩⟩
      · rw [List.length_map, List.length_take, List.length_map]
        exact small1000 (by omega)
      · rw [upd_same, List.take_add_one, List.getElem?_map, h1, List.map_append]
        rfl
  · obtain ⟨sm, eD⟩ := hP
    rw [eD, List.take_of_length_le]
    rw [List.length_map, List.length_map]
    exact Nat.le_refl _
end OC

set_option Elab.async false
set_option linter.all false
set_option maxRecDepth 100000
set_option maxHeartbeats 2000000
/-! defs that are called while no repr is under way (A.guards = some []): the layer's promise with that one fact more -/
namespace OC
open PySem PySem.Spec PyProof.Rows L2
structure FnG (P : Program) (w : World) (K : PySem.W.Frag) (mg : Str → Option Value) (base : Heap) (CX : CXT) (k : Nat)
    (f : Addr) (fd : FuncData) (ps : List Str) (sp : Sp) : Prop where
  len : ∀ vs H Q E, sp vs H Q E → vs.length = ps.length
  go : ∀ (A : Around) (outer : List Env) (s : Shared) (H : Hp) (args : Args) (us : List Value) (vs : List V) (Q : VK) (E : XK),
    Room k A → A.guards = some [] → Env0 P w K mg base A outer s H → BindsTo s fd args (ps.zip us) → Vals vs us → sp vs H Q E →
    codeAny (model P w) A (.call (.ref f) args) (CR CX outer P w H s Q E) s
section
variable {P : Program} {w : World} {K : PySem.W.Frag} {mg : Str → Option Value} {base : Heap} {CX : CXT} {k : Nat} {f : Addr} {fd : FuncData} {ps : List Str} {sp : Sp}
theorem FnG.of (F : FnOk P w K mg base CX k f fd ps sp) : FnG P w K mg base CX k f fd ps sp :=
  ⟨F.len, fun A outer s H args us vs Q E hr _ => F.run A outer s H args us vs Q E hr⟩
theorem FnG.mono {j : Nat} (F : FnG P w K mg base CX j f fd ps sp) (h : j ≤ k) : FnG P w K mg base CX k f fd ps sp :=
  ⟨F.len, fun A outer s H args us vs Q E hr => F.go A outer s H args us vs Q E (hr.mono h)⟩
end
/-- from the body, where no repr is under way -/
theorem fnG_of {CX : CXT} {P : Program} {w : World} {K : PySem.W.Frag} {mg : Str → Option Value} {base : Heap} {k : Nat} {f : Addr}
    {nm ql : Str} {pr : Arguments} {bd : List Stmt} {sc : Scope} {dV kV doc pm cdv ct oc : Value} {an od : Option Addr}
    {osl : Array (Option Value)} {N ps : List Str} {sp : Sp}
    (lk : K.lookup f = some ⟨oc, od, .func (PySem.W.fnOf nm ql pr bd sc dV kV doc pm an cdv ct), osl⟩)
    (hcd : PySem.W.codeIn K cdv ql = true) (S : FnScope N ps sc)
    (len : ∀ vs H Q E, sp vs H Q E → vs.length = ps.length)
    (hbody : ∀ (A : Around) (outer : List Env) (s : Shared) (H : Hp) (vs : List V) (Q : VK) (E : XK),
      Room k (A.deeper (envOfC ql sc s.heap.objs.size f cdv)) → A.guards = some [] → sp vs H Q E →
      ∃ t, PSs (cxOf CX P w K mg base N ql sc f cdv A outer s H E) bd t ∧ t { nx := fun _ H' => Q .non H', rt := Q } (start N vs) H) :
    FnG P w K mg base CX (k + 1) f (PySem.W.fnOf nm ql pr bd sc dV kV doc pm an cdv ct) ps sp where
  len := len
  go A outer s H args us vs Q E hr hgd e0 hb r hsp := by
    have same : ∀ b o, base.get? b = some o → s.heap.get? b = some o := fun b o e => (e0.bs b o e).1
    have inK : K.In s.heap := e0.mod.kin.keeps same
    have noLim : s.heap.NoLimit := e0.mod.nolimit.keeps same
    have kinds : ∀ y ∈ ps.zip us, sc.names.lookup y.1 = some .local ∨
        (sc.names.lookup y.1 = some .cell ∧ ((cellsFrom (s.heap.objs.size + 1) sc.names []).lookup y.1).isSome = true) := by
      rintro ⟨n, v⟩ hy
      exact (S.par n (List.of_mem_zip hy).1).imp id fun q => ⟨q, PySem.W.cellsFrom_some _ _ _ (.inl q)⟩
    apply codeAny_call_function hr.depth (inK _ _ lk) rfl S.co S.gen rfl (PySem.W.codeRec_of inK hcd)
    apply hb
    apply wpAny_newFunctionEnv_cells S.kind kinds
    intro env he s1 x
    cases he
    refine ⟨noLim.keeps x.toInCall.keep, codeAny_func ?_⟩
    obtain ⟨t, ht, hq⟩ := hbody A outer s H vs Q E (hr.deeper _) hgd hsp
    have I0 := inv_start (CX := CX) (P := P) (w := w) (E := E) S hr.hd e0 (len _ _ _ _ hsp) r x
    have ran := ht.run [] s1 (start N vs) H _ I0 hq
    apply wpAny_mono ran
    · intro fl s' hs
      rcases fl with _ | _ | _ | u
      all_goals first
        | (obtain ⟨v, σ', H', J, rv, q⟩ := hs; exact ⟨v, H', J.os, J.bare, J.base, J.hok, rv, q⟩)
        | (obtain ⟨σ', H', J, q⟩ := hs; exact ⟨V.non, H', J.os, J.bare, J.base, J.hok, rfl, q⟩)
        | (obtain ⟨_, _, _, q⟩ := hs; exact q.elim)
    · exact fun e s' hs => hs
section
variable {X : Cx} {CX : CXT} {k : Nat} {f : Addr} {fd : FuncData} {ps : List Str} {sp : Sp} {E : XK}
theorem runG {pins : List (Addr × Obj)} {σ : L2.St} {H : Hp} {s : Shared} {Q : VK} {us : List Value} {vs : List V}
    (F : FnG X.prog X.w X.K X.mg X.base CX k f fd ps sp) (hr : Room k X.A) (hgd : X.A.guards = some []) (hb : Binds X.K fd ps []) (hx : Passes CX X E)
    (I : Inv X pins σ H s) (r : Vals vs us) (h : sp vs H Q E) : wpAny (model X.prog X.w) X.A (call (.ref f) us) (EP X pins σ Q) X.xe s := by
  have hl : us.length = ps.length := r.length.symm.trans (F.len _ _ _ _ h)
  have hb' := hb s us I.kIn (by rw [List.append_nil]; exact hl)
  rw [List.append_nil] at hb'
  have run := F.go X.A X.stack s H ⟨us, []⟩ us vs Q E hr hgd I.env0 hb' r h
  apply wpAny_call
  apply codeAny_mono run
  intro res s' hq
  rcases res with e | fl
  · exact hx pins σ H s e s' I hq
  · rcases fl with _ | _ | _ | u
    all_goals first
      | exact I.after hq
      | exact (show False from hq).elim
end
/-! ### by name -/
structure OkG (P : Program) (w : World) (K : PySem.W.Frag) (mg : Str → Option Value) (base : Heap) (k : Nat) (x : Str) (ps : List Str) (sp : Sp) : Prop where
  ex : ∃ (f : Addr) (fd : FuncData), FnG P w K mg base CX0 k f fd ps sp ∧ mg x = some (.ref f) ∧ PySem.W.keepIn K (.ref f) = true ∧ Binds K fd ps []
section
variable {P : Program} {w : World} {K : PySem.W.Frag} {mg : Str → Option Value} {base : Heap}
theorem Ok.toG {x : Str} {ps : List Str} {k : Nat} {sp : Sp} (O : Ok P w K mg base k x ps sp) : OkG P w K mg base k x ps sp := by
  obtain ⟨f, fd, F, r⟩ := O.ex
  exact ⟨f, fd, .of F, r⟩
theorem funG {x : Str} {st : Stmt} {f : Addr} {fd : FuncData} {N ps : List Str} {k : Nat} {sp : Sp} (F : Fun K x x st f fd) (S : FnScope N ps (defScope st)) (len : ∀ vs H Q E, sp vs H Q E → vs.length = ps.length)
    (hbody : ∀ (cdv : Value) (A : Around) (outer : List Env) (s : Shared) (H : Hp) (vs : List V) (Q : VK) (E : XK), Room k (A.deeper (envOfC x (defScope st) s.heap.objs.size f cdv)) → A.guards = some [] → sp vs H Q E →
      ∃ t, PSs (cxOf CX0 P w K mg base N x (defScope st) f cdv A outer s H E).nox (defBody st) t ∧ t { nx := fun _ H' => Q .non H', rt := Q } (start N vs) H) : FnG P w K mg base CX0 (k + 1) f fd ps sp := by
  obtain ⟨oc, od, kV, doc, pm, an, cdv, ct, osl, rfl, lk, hcd⟩ := F.ex
  refine fnG_of lk hcd S len ?_
  intro A outer s H vs Q E hr hgd hsp
  obtain ⟨t, h, q⟩ := hbody cdv A outer s H vs Q E hr hgd hsp
  exact ⟨t, h.nox, q⟩
theorem Df.okG {x : Str} {st : Stmt} {N ps : List Str} {k : Nat} {sp : Sp} (D : Df K mg x st ps) (S : FnScope N ps (defScope st)) (len : ∀ vs H Q E, sp vs H Q E → vs.length = ps.length)
    (hbody : ∀ (f : Addr) (cdv : Value) (A : Around) (outer : List Env) (s : Shared) (H : Hp) (vs : List V) (Q : VK) (E : XK), Room k (A.deeper (envOfC x (defScope st) s.heap.objs.size f cdv)) → A.guards = some [] → sp vs H Q E →
      ∃ t, PSs (cxOf CX0 P w K mg base N x (defScope st) f cdv A outer s H E).nox (defBody st) t ∧ t { nx := fun _ H' => Q .non H', rt := Q } (start N vs) H) : OkG P w K mg base (k + 1) x ps sp := by
  obtain ⟨f, fd, F, b, g⟩ := D.ex
  exact ⟨f, fd, funG F S len (hbody f), g, F.kp, b⟩
end
section
variable {X : Cx} {x : Str} {ps : List Str} {k : Nat} {sp : Sp}
theorem pe_callG {e : Expr} {es : List Expr} {t : TA} {p pos : Pos} (O : OkG X.prog X.w X.K X.mg X.base k x ps sp) (hr : Room k X.A) (hgd : X.A.guards = some []) (hg : Gl X x) (ha : PA X (e :: es) t) (hdb : (x == ("__debug__" : Str)) = false := by decide)
    (he : starEach (e :: es) X.env = (false, eval e X.env) :: starEach es X.env := by rfl) (hpl : (backTo pos (starEach es X.env)).any (·.1) = false := by rfl) :
    PE X (.Call (.Name x p) (e :: es) [] pos) (fun σ H Q => t σ H fun vs H1 => sp vs H1 Q E0) := by
  obtain ⟨f, fd, F, g, kp, b⟩ := O.ex
  constructor
  intro pins s σ H Q I h
  apply wpAny_Call_Name_kw
  apply ld_glob I hg g _ hdb
  apply PySem.W.callWith_K (h₀ := X.base) I.ok.mod.kin kp _ he hpl
  apply thn (ha.run pos pins s σ H _ I h)
  rintro us s1 ⟨vs, H1, I1, r, q⟩
  exact ⟨I1.kIn, runG F hr hgd b pass0 I1 r q⟩
end
end OC

set_option Elab.async false
set_option linter.all false
set_option maxRecDepth 100000
set_option maxHeartbeats 2000000
namespace OC
open PySem PySem.Spec PyProof.Rows L2
section
variable {P : Program} {w : World} {K : PySem.W.Frag} {mg mb : Str → Option Value} {CX : CXT} {k : Nat} {fa a : Addr} {fd : FuncData} {x : Str} {sp : Sp} {s₁ : Shared} {vs : List Value} {ns : List Int}
/-- the law's own call, where only the script may be tracked -/
theorem law_core (KX : K.In s₁.heap) (hns : s₁.heap.Ns mainGlobals mg) (hb : s₁.heap.Ns builtinsNs mb) (hbb : ∀ x : Str, x ≠ "__name__" → mb x = bootBuiltins x)
    (hlim : s₁.heap.NoLimit) (hg : s₁.gens = #[]) (ha : s₁.heap.get? a = some { cls := .type "list", data := .seq vs.toArray }) (hr : Room k callerA)
    (F : ∀ base : Heap, K.In base → base.Ns mainGlobals mg → FnG P w K mg base CX k fa fd [x] sp)
    (hbind : ∀ (s : Shared) (u : Value), BindsTo s fd ⟨[u], []⟩ [(x, u)]) (hCX : ∀ H e s', CX [] H s₁ (fun _ _ _ => False) e s' → False)
    (H : Hp) (hO : Only H) (hsp : sp [.ref a] H (fun v _ => v = .bl true) fun _ _ _ => False) (hok : HOk P w H s₁.heap) (hA : ∀ b, H b ≠ none → b = a) (hK : H a ≠ none → K.lookup a = none) :
    codeAny (model P w) callerA (.call (.ref fa) ⟨[.ref a], []⟩)
      (fun r s' => r = .ok (.ret (.bool true)) ∧ OldK s₁.heap s'.heap ∧ s'.os = s₁.os ∧ AllBare s'.gens) s₁ := by
  have off : ∀ {b : Addr} {o : Obj} {es : Array DictEntry} {ep : Nat}, s₁.heap.get? b = some o → o.data = .dict es ep → H b = none := by
    intro b o es ep e d
    apply Classical.byContradiction
    intro nb
    have eb := hA b nb
    subst eb
    rw [ha] at e
    have eo := Option.some.inj e
    subst eo
    cases (show Data.seq vs.toArray _ = Data.dict es ep from d)
  have nsB : ∀ {b : Addr} {m : Str → Option Value}, s₁.heap.Ns b m → (hidT s₁.heap H).Ns b m := by
    rintro b m ⟨o, es, ep, e, d, r⟩
    exact ⟨o, es, ep, hidT_get e (off e d), d, r⟩
  have inB : K.In (hidT s₁.heap H) := by
    intro b o e
    refine hidT_get (KX b o e) ?_
    apply Classical.byContradiction
    intro nb
    have eb := hA b nb
    subst eb
    rw [hK nb] at e
    cases e
  obtain ⟨mc, l1, l2⟩ := hlim
  have M : Mod K mg (hidT s₁.heap H) := ⟨inB, nsB hns, ⟨mb, nsB hb, hbb⟩, ⟨mc, nsB l1, l2⟩⟩
  have e0 : Env0 P w K mg (hidT s₁.heap H) callerA [] s₁ H :=
    ⟨rfl, M, fun b o e => of_hidT e, Nat.le_of_eq (hidT_size _ _), trivial, fun b hb => (nomatch (show b ∈ ([] : List Addr) from hb)), hok, .of_eq hg⟩
  have run := (F _ inB (nsB hns)).go callerA [] s₁ H ⟨[.ref a], []⟩ [.ref a] [.ref a] _ _ hr rfl e0 (hbind s₁ (.ref a)) (.cons rfl .nil) hsp
  apply codeAny_mono run
  intro r s' h
  rcases r with e | fl
  · exact (hCX H e s' h).elim
  · rcases fl with _ | _ | _ | u
    all_goals first
      | exact (show False from h).elim
      | skip
    obtain ⟨v, H', os, bare, un, hok', r', q⟩ := h
    cases (show v = .bl true from q)
    cases (show u = Value.bool true from r')
    refine ⟨rfl, OldK.of_keep ?_, os, bare⟩
    intro b o e
    rcases hO b with z | ⟨ob, xs, z⟩
    · exact un.keep b o e z (fun y => (nomatch (show b ∈ ([] : List Addr) from y))) (fun y => (nomatch y))
    · have e1 := (hok b _ z).1
      have e2 := (hok' b _ (un.frzs b ob _ z)).1
      rw [e] at e1
      rw [Option.some.inj e1]
      exact e2
theorem law_callG (KX : K.In s₁.heap) (hns : s₁.heap.Ns mainGlobals mg) (hb : s₁.heap.Ns builtinsNs mb) (hbb : ∀ x : Str, x ≠ "__name__" → mb x = bootBuiltins x)
    (hlim : s₁.heap.NoLimit) (hg : s₁.gens = #[]) (ha : s₁.heap.get? a = some { cls := .type "list", data := .seq vs.toArray }) (hi : IntsAre vs ns) (hl : ns.length ≤ sizeLine) (hr : Room k callerA)
    (F : ∀ base : Heap, K.In base → base.Ns mainGlobals mg → FnG P w K mg base CX k fa fd [x] sp)
    (hbind : ∀ (s : Shared) (u : Value), BindsTo s fd ⟨[u], []⟩ [(x, u)])
    (hsp : ∀ H : Hp, Only H → SqL K H a (ns.map V.int) → sp [.ref a] H (fun v _ => v = .bl true) fun _ _ _ => False) (hCX : ∀ H e s', CX [] H s₁ (fun _ _ _ => False) e s' → False) :
    codeAny (model P w) callerA (.call (.ref fa) ⟨[.ref a], []⟩)
      (fun r s' => r = .ok (.ret (.bool true)) ∧ OldK s₁.heap s'.heap ∧ s'.os = s₁.os ∧ AllBare s'.gens) s₁ := by
  have rv := vals_ints hi
  have lv := hi.length
  cases hk : K.lookup a with
  | some o =>
    have e := KX a o hk
    rw [ha] at e
    have eo := (Option.some.inj e).symm
    subst eo
    have only : Only (fun _ => none) := fun _ => .inl rfl
    have sq : SqL K (fun _ => none) a (ns.map V.int) := .inr ⟨_, vs.toArray, _, hk, rfl, rfl, rfl, by rw [List.size_toArray, lv]; exact hl, by simpa using rv⟩
    exact law_core KX hns hb hbb hlim hg ha hr F hbind hCX (fun _ => none) only (hsp _ only sq) (fun b u z => (nomatch (show (none : Option HO) = some u from z))) (fun b z => (z rfl).elim) (fun z => (z rfl).elim)
  | none =>
    let H0 : Hp := upd (fun _ => none) a (.frz { cls := .type "list", data := .seq vs.toArray } (.lst (ns.map V.int)))
    have at_a : H0 a = some (.frz { cls := .type "list", data := .seq vs.toArray } (.lst (ns.map V.int))) := upd_same
    have off : ∀ b, b ≠ a → H0 b = none := fun b n => upd_ne n
    have only : Only H0 := by
      intro b
      by_cases hb : b = a
      · subst hb
        exact .inr ⟨_, _, at_a⟩
      · exact .inl (off b hb)
    refine law_core KX hns hb hbb hlim hg ha hr F hbind hCX H0 only (hsp _ only (.inl (.inr ⟨_, at_a⟩))) ?_ ?_ (fun _ => hk)
    · intro b u z
      by_cases hb : b = a
      · subst hb
        rw [at_a] at z
        have ez := (Option.some.inj z).symm
        subst ez
        exact ⟨ha, by rw [List.length_map]; exact hl, vs, _, rv, ha⟩
      · rw [off b hb] at z
        cases z
    · intro b z
      apply Classical.byContradiction
      intro hb
      exact z (off b hb)
end
theorem walk_ofG {l : PySem.W.OpenLaw} {n k : Nat} {q : Program} {loose : List Str} {XP : (Str → Option Value) → Heap → Prop} {YP : World → Heap → Prop} {d : DefRec} {K : Params → PySem.W.Frag} {CX : World → CXT} {sp : World → Sp} {x : Str}
    (hn : l.most = some n) (hn2 : n ≤ sizeLine) (hdf : d.params.defaults = []) (hr : Room k callerA) (hY : ∀ (w : World) (h : Heap), YP w h → (K w.params).In h) (F : ∀ (w : World) (mg : Str → Option Value) (fa : Addr) (h : Heap), (K w.params).In h → h.Ns mainGlobals mg → mg d.name = some (.ref fa) → ∃ fd : FuncData, (∀ (s : Shared) (u : Value), BindsTo s fd ⟨[u], []⟩ [(x, u)]) ∧ ∀ base : Heap, (K w.params).In base → base.Ns mainGlobals mg → FnG l.prog w (K w.params) mg base (CX w) k fa fd [x] (sp w)) (hsp : ∀ (w : World) (H : Hp) (a : Addr) (ns : List Int), ns.length ≤ n → Only H → SqL (K w.params) H a (ns.map V.int) → sp w [.ref a] H (fun v _ => v = .bl true) fun _ _ _ => False) (hCX : ∀ (w : World) (H : Hp) (s : Shared) (e : Value) (s' : Shared), CX w [] H s (fun _ _ _ => False) e s' → False) : PySem.W.WalkO q loose XP YP l.row.toRowW d [] (fun f vs => PySem.call f vs) := by
  apply Att.attach_call hn hdf
  intro w s₀ s₁ mg mb fa o pm cd doc a vs ns G Y ho hd hcd hmg hobj hints hlen hg
  obtain ⟨fd, hb, hF⟩ := F w mg fa _ (hY w _ Y) G.T.g hmg
  exact law_callG (hY w _ Y) G.T.g G.T.b G.T.builtins G.T.nolimit hg hobj hints (Nat.le_trans hlen hn2) hr hF hb (fun H hO hS => hsp w H a ns hlen hO hS) fun H e s' => hCX w H s₁ e s'
end OC

set_option Elab.async false
set_option linter.all false
set_option maxRecDepth 100000
set_option maxHeartbeats 2000000
/-! t[::-1] of a tuple -/
namespace OC
open PySem PySem.Spec PyProof.Rows L2 HT
section
variable {prog : Program} {w : World} {A : Around} {E : Value → Shared → Prop} {s : Shared}
theorem pick_back (xs : Array Value) : ((List.range xs.size).filterMap fun (m : Nat) => xs[(((xs.size : Int) - 1) + (m : Int) * (-1)).toNat]?).toArray = xs.toList.reverse.toArray := by
  congr 1
  have h : ∀ k, k ≤ xs.size → ((List.range k).filterMap fun (m : Nat) => xs[(((xs.size : Int) - 1) + (m : Int) * (-1)).toNat]?) = xs.toList.reverse.take k := by
    intro k
    induction k with
    | zero => intro _; simp
    | succ k ih =>
      intro hk
      have i1 : (((xs.size : Int) - 1) + (k : Int) * (-1)).toNat = xs.size - 1 - k := by omega
      have i2 : xs.size - 1 - k < xs.size := by omega
      rw [List.range_succ, List.filterMap_append, ih (by omega), List.take_add_one]
      congr 1
      have g : xs.toList.reverse[k]? = some xs[xs.size - 1 - k] := by
        rw [List.getElem?_reverse (by simpa using (show k < xs.size from hk)), Array.length_toList, Array.getElem?_toList]
        exact Array.getElem?_eq_getElem i2
      rw [g]
      simp only [List.filterMap_cons, List.filterMap_nil, i1, Array.getElem?_eq_getElem i2]
      rfl
  rw [h xs.size (Nat.le_refl _), List.take_of_length_le]
  simp
theorem slice_back {sl : Addr} {vl vu vs : Value} {n : Nat} {Q : Int × Int × Nat → Shared → Prop} (hs : s.heap.IsSliceOf sl vl vu vs) (pl : IsPart vl none) (pu : IsPart vu none) (ps : IsPart vs (some (-1)))
    (h : Q ((n : Int) - 1, -1, n) s) : wpAny (model prog w) A (Builtin.Slice.sliceApplied (.ref sl) (pure (n : Int))) Q E s := by
  obtain ⟨os, hos, hcs, hds⟩ := id hs
  unfold Builtin.Slice.sliceApplied Builtin.Slice.sliceFields
  apply wpAny_bind
  apply wpAny_bind
  apply wpAny_field hos hds (x := vl) rfl
  apply wpAny_bind
  apply wpAny_field hos hds (x := vu) rfl
  apply wpAny_bind
  apply wpAny_field hos hds (x := vs) rfl
  apply wpAny_pure
  apply wpAny_bind
  apply slicePart_ ps
  show wpAny _ _ (if ((-1 : Int) == 0) = true then _ else _) _ _ s
  rw [if_neg (by decide)]
  apply wpAny_bind
  apply slicePart_ pl
  apply wpAny_bind
  apply slicePart_ pu
  apply wpAny_bind
  apply wpAny_pure
  have e1 : Builtin.Slice.sliceAdjust none none (-1) (n : Int) = ((n : Int) - 1, -1) := rfl
  have e2 : Builtin.Slice.slicePlaces ((n : Int) - 1) (-1) (-1) = n := by
    unfold Builtin.Slice.slicePlaces
    rw [if_neg (by decide)]
    by_cases hn : n = 0
    · subst hn
      decide
    · rw [if_pos (by omega), show (- -1 : Int) = 1 from rfl, Int.ediv_one]
      omega
  show wpAny _ _ (match Builtin.Slice.sliceAdjust none none (-1) (n : Int) with | (lo, hi) => pure (lo, (-1 : Int), Builtin.Slice.slicePlaces lo hi (-1))) _ _ s
  rw [e1]
  show wpAny _ _ (pure ((n : Int) - 1, (-1 : Int), Builtin.Slice.slicePlaces ((n : Int) - 1) (-1) (-1))) _ _ s
  rw [e2]
  exact wpAny_pure h
theorem getItem_tuple_back {t sl : Addr} {items : Array Value} {vl vu vs : Value} {Q : Value → Shared → Prop} (ht : IsTup s.heap t items) (hs : s.heap.IsSliceOf sl vl vu vs) (pl : IsPart vl none) (pu : IsPart vu none) (ps : IsPart vs (some (-1)))
    (h : Q (.ref s.heap.objs.size) { s with heap := s.heap.push { cls := .type "tuple", data := .seq items.toList.reverse.toArray } }) (hsz : items.size ≤ sizeLine) : wpAny (model prog w) A (getItem (.ref t) (.ref sl)) Q E s := by
  have hz : sizeOk (.seq items.toList.reverse.toArray) := by
    show items.toList.reverse.toArray.size ≤ sizeLine
    simpa using hsz
  obtain ⟨os, hos, hcs, hds⟩ := id hs
  have hTs : s.TypeIs (.ref sl) "slice" := ⟨os, hos, hcs⟩
  unfold getItem
  try with_reducible apply wpAny_holding
  try (apply wpAny_bind; apply wpAny_pure)
  apply wpAny_bind
  apply wpAny_sequenceKey ht.typeIs (by decide)
  apply wpAny_bind
  apply wpAny_callSpecial?_slot (name := Str.ofString "__getitem__") ht.typeIs PyProof.Rows.slot_tuple_getitem
  refine wpAny_call_entry PyProof.Rows.slot_tuple_getitem ht.typeIs entry_tuple_getitem ?_ (args_tuple_getitem _ _)
  show wpAny _ _ (Builtin.Tuple.tupleItemsOf (.ref t) >>= _) _ _ s
  apply wpAny_bind
  apply tupleItemsOf_ ht
  apply wpAny_bind
  apply wpAny_typeOf hTs
  rw [if_pos (by decide)]
  apply wpAny_bind
  apply slice_back hs pl pu ps
  have hno : ¬ ((((items.size : Int) - 1) == 0 && (-1 : Int) == 1 && items.size == items.size) = true) := by simp
  show wpAny _ _ (if (((items.size : Int) - 1) == 0 && (-1 : Int) == 1 && items.size == items.size) = true then _ else _) _ _ s
  rw [if_neg hno, pick_back]
  first
    | exact wpAny_bind (m := Builtin.Tuple.tupleExact _) (wpAny_newObj_type (wpAny_pure ⟨_, rfl, wpAny_pure h⟩) hz)
    | exact wpAny_bind (wpAny_bind (m := Builtin.Tuple.tupleExact _) (wpAny_newObj_type (wpAny_pure ⟨_, rfl, wpAny_pure h⟩) hz))
    | exact wpAny_bind (m := Builtin.Tuple.tupleExact _) (wpAny_newObj_type (wpAny_bind (wpAny_pure (wpAny_pure ⟨_, rfl, wpAny_pure h⟩))) hz)
    | exact wpAny_bind (wpAny_bind (m := Builtin.Tuple.tupleExact _) (wpAny_newObj_type (wpAny_pure (wpAny_pure ⟨_, rfl, wpAny_pure h⟩)) hz))
end
def tRevT (K : PySem.W.Frag) (te : TE) : TE := fun σ H Q => te σ H fun x H1 => ∃ a xs, x = .ref a ∧ SqT K H1 a xs ∧ ∀ p, H1 p = none → Q (.ref p) (upd H1 p (.tup xs.reverse))
theorem pe_revT {X : Cx} {e : Expr} {te : TE} {k : Nat} {p1 p2 p3 pos : Pos} (he : PE X e te) :
    PE X (.Subscript e (.Slice none none (some (.UnaryOp .USub (.Constant (.int 1) k p1) p2)) p3) pos) (tRevT X.K te) := by
  constructor
  intro pins s σ H Q I h
  apply Subscript_
  apply thn (he.run pins s σ H _ I h)
  rintro v s1 ⟨x, H1, I1, r1, a, xs, rfl, hx, q⟩
  cases r1
  have part : PO X (some (.UnaryOp .USub (.Constant (.int 1) k p1) p2)) (tPart (tUn (rU fun i => .int (-i)) (tC (.int 1)))) := po_some (pe_un un_neg pe_int)
  apply wpAny_Slice
  apply thn (po_none.run pins s1 σ H1 (fun o H2 => o = none ∧ H2 = H1) I1 ⟨rfl, rfl⟩)
  rintro vl s2 ⟨_, _, I2, pl, rfl, rfl⟩
  apply thn (po_none.run pins s2 σ _ (fun o H3 => o = none ∧ H3 = _) I2 ⟨rfl, rfl⟩)
  rintro vu s3 ⟨_, _, I3, pu, rfl, rfl⟩
  apply thn (part.run pins s3 σ _ (fun o H4 => o = some (-1) ∧ H4 = _) I3 ⟨1, rfl, -1, rfl, rfl, rfl⟩)
  rintro vs s4 ⟨_, _, I4, ps, rfl, rfl⟩
  have I5 := I4.kept (h' := s4.heap.push { cls := .type "slice", data := .fields #[vl, vu, vs] }) (t' := s4.toks) fun b ob q => Heap.get?_push_of_some _ q
  obtain ⟨its, r, ht, hz⟩ := I5.tuple hx
  have hlen := r.length
  show wpAny (model X.prog X.w) X.A (subscriptTail e (.Slice none none (some (.UnaryOp .USub (.Constant (.int 1) k p1) p2)) p3) (.ref a) (.ref s4.heap.objs.size)) (EP X pins σ Q) X.xe _
  refine tail_any (ops := [.ref a, .ref s4.heap.objs.size]) ht.typeIs (PyProof.Rows.slot_tuple_getitem.lookup) ?_ (by with_unfolding_all rfl)
  refine getItem_tuple_back ht (Heap.IsSliceOf.new _ vl vu vs) pl pu ps ?_ (by rw [List.size_toArray]; omega)
  have J := I5.laid (t' := s4.toks) (o := .tup xs.reverse) (h' := (s4.heap.push { cls := .type "slice", data := .fields #[vl, vu, vs] }).push { cls := .type "tuple", data := .seq its.toArray.toList.reverse.toArray }) (fun b ob q => Heap.get?_push_of_some _ q) (Nat.le_refl _) ⟨by rw [List.length_reverse]; exact hz, its.reverse, r.reverse, IsTup.new _ _⟩
  exact ⟨.ref _, _, J, rfl, q _ (I5.hok.fresh (Nat.le_refl _))⟩
end OC

set_option Elab.async false
set_option linter.all false
set_option maxRecDepth 100000
set_option maxHeartbeats 2000000
/-! repr of things, where no repr is under way -/
namespace OC
open PySem PySem.Spec PyProof.Rows L2
mutual
def lstless : PyData → Bool
  | .none => true | .bool _ => true | .int _ => true | .str _ => true | .list _ => false | .tuple ds => lstlessAll ds | .dict _ => true
def lstlessAll : List PyData → Bool
  | [] => true
  | d :: ds => lstless d && lstlessAll ds
end
section
variable {X : Cx} {pins : List (Addr × Obj)} {σ : L2.St} {H : Hp} {s : Shared} {bad : Addr → Prop}
theorem reads_key {h : Heap} {k : Key} {u : Value} (e : keyIs k u = true) : Reads h u (keyD k) [] := by
  rcases keyIs_shape e with ⟨i, t, rfl, rfl⟩ | ⟨x, t, rfl, rfl⟩
  · exact .int i t
  · exact .str x t
theorem reads_fl {h : Heap} : ∀ {v : V} {u : Value}, flOk v = true → RelV v u → Reads h u (flD v) []
  | .non, _, _, r => by cases r; exact .none
  | .bl b, _, _, r => by cases r; exact .bool b
  | .int i, _, _, r => by obtain ⟨t, rfl⟩ := r; exact .int i t
  | .str x, _, _, r => by obtain ⟨t, rfl⟩ := r; exact .str x t
theorem reads_pairs {h : Heap} {P : Program} {w : World} : ∀ {es : List DictEntry} {vs : List (Key × Value)} {kvs : List (Key × V)}, Pairs (mixKind P w) es vs → KV kvs vs → (kvs.all fun p => flOk p.2) = true →
    ReadsAll h (es.map (·.key)) (kvs.map fun p => keyD p.1) [] ∧ ReadsAll h (es.map (·.val)) (kvs.map fun p => flD p.2) []
  | _, _, _, .nil, .nil, _ => ⟨.nil, .nil⟩
  | _, _, _, .cons h1 h2 t, .cons ⟨e1, e2⟩ t2, hf => by
    rw [List.all_cons, Bool.and_eq_true] at hf
    obtain ⟨a, b⟩ := reads_pairs (h := h) t t2 hf.2
    have k1 := reads_key (h := h) (show keyIs _ _ = true from h1)
    rw [← e1] at k1
    have v1 := reads_fl (h := h) hf.1 e2
    rw [← h2] at v1
    exact ⟨.cons k1 a, .cons v1 b⟩
mutual
theorem rep_reads (I : Inv X pins σ H s) : ∀ (d : PyData) (v : V) (u : Value), Rep X.K H bad v d → RelV v u → ∃ as, Reads s.heap u d as ∧ (lstless d = true → sysModules ∉ as)
  | .none, _, _, h, r => by cases h; cases r; exact ⟨_, .none, fun _ => nofun⟩
  | .bool b, _, _, h, r => by cases h; cases r; exact ⟨_, .bool b, fun _ => nofun⟩
  | .int i, _, _, h, r => by cases h; obtain ⟨t, rfl⟩ := r; exact ⟨_, .int i t, fun _ => nofun⟩
  | .str x, _, _, h, r => by cases h; obtain ⟨t, rfl⟩ := r; exact ⟨_, .str x t, fun _ => nofun⟩
  | .list ds, _, _, h, r => by
    cases h with
    | lst hs hb ha =>
      cases r
      obtain ⟨its, rv, ⟨o, n, ho, hc, _, hd⟩, _⟩ := I.list (.inl (.inl hs))
      obtain ⟨as, q, _⟩ := repAll_reads I ds _ its ha rv
      exact ⟨_, .list ho hc hd q, fun z => by simp [lstless] at z⟩
  | .tuple ds, _, _, h, r => by
    cases h with
    | tup hs ha =>
      cases r
      obtain ⟨its, rv, ⟨o, ho, hc, n, hd⟩, _⟩ := I.tuple hs
      obtain ⟨as, q, f⟩ := repAll_reads I ds _ its ha rv
      exact ⟨_, .tuple ho hc hd q, fun z => f (by simpa [lstless] using z)⟩
  | .dict kvs, v, u, h, r => by
    cases h with
    | @dct a ks hs hf =>
      cases r
      obtain ⟨_, hsys, vs, kv, o, es, ep, ho, hx, hd, _, hp, _⟩ := I.hok a _ hs
      obtain ⟨r1, r2⟩ := reads_pairs (h := s.heap) hp kv hf
      refine ⟨a :: [] ++ [], .dict ho hx.1 hd (by rw [List.map_map]; exact r1) (by rw [List.map_map]; exact r2), fun _ m => ?_⟩
      have e : sysModules = a := by simpa using m
      rw [← e] at hsys
      simp at hsys
theorem repAll_reads (I : Inv X pins σ H s) : ∀ (ds : List PyData) (vs : List V) (us : List Value), RepAll X.K H bad vs ds → Vals vs us → ∃ as, ReadsAll s.heap us ds as ∧ (lstlessAll ds = true → sysModules ∉ as)
  | [], _, _, h, r => by cases h; cases r; exact ⟨_, .nil, fun _ => nofun⟩
  | d :: ds, _, _, h, r => by
    cases h with
    | cons h1 h2 =>
      cases r with
      | cons r1 r2 =>
        obtain ⟨as, q1, f1⟩ := rep_reads I d _ _ h1 r1
        obtain ⟨bs, q2, f2⟩ := repAll_reads I ds _ _ h2 r2
        refine ⟨_, .cons q1 q2, fun z m => ?_⟩
        have z' : lstless d = true ∧ lstlessAll ds = true := by simpa [lstlessAll] using z
        rcases List.mem_append.mp m with m | m
        · exact f1 z'.1 m
        · exact f2 z'.2 m
end
end
/-- what repr asks of a thing -/
structure Fit (d : PyData) : Prop where
  len : d.shown.length ≤ 1000000
  sh : d.showable = true
  dp : d.depth ≤ 50
  ok : d.hasDict = true → lstless d = true
def rReprQ (K : PySem.W.Frag) (bad : Addr → Prop) : List V → Hp → VK → Prop := fun xs H Q => ∃ v d, xs = [v] ∧ Rep K H bad v d ∧ Fit d ∧ Q (.str d.shown) H
theorem call_reprQ {X : Cx} {k : Nat} (bad : Addr → Prop) (hr : Room k X.A) (hgd : X.A.guards = some []) : CallR X (.builtin "repr") (rReprQ X.K bad) := by
  intro pins s σ H xs us Q I r h
  obtain ⟨v, d, rfl, hv, ⟨fl, fs, fd, fo⟩, q⟩ := h
  cases r with
  | cons r1 r2 =>
    cases r2
    have hz : d.shown.length ≤ sizeLine := Nat.le_trans fl (by decide)
    have hu := hr.units
    obtain ⟨as, rd, hsm⟩ := rep_reads I d v _ hv r1
    cases hv with
    | non => cases r1; exact P.repr_of_none ⟨.str _, H, I.tok _, ⟨_, rfl⟩, q⟩
    | bl b => cases r1; exact P.repr_of_bool ⟨.str _, H, I.tok _, ⟨_, rfl⟩, q⟩
    | int i =>
      obtain ⟨t, rfl⟩ := r1
      exact P.repr_of_int (by simpa [PyData.showable] using fs) ⟨.str _, H, I.tok _, ⟨_, rfl⟩, q⟩
    | str x =>
      obtain ⟨t, rfl⟩ := r1
      exact P.repr_of_str ⟨.str _, H, I.tok _, ⟨_, rfl⟩, q⟩ hz
    | lst _ _ _ => cases r1; exact repr_of_reads' rd fs (fun z => hsm (fo z)) hgd (by omega) (fun _ _ e => e) (fun h' u tk hk => ⟨.str _, H, I.kept hk, ⟨_, rfl⟩, q⟩) hz
    | tup _ _ => cases r1; exact repr_of_reads' rd fs (fun z => hsm (fo z)) hgd (by omega) (fun _ _ e => e) (fun h' u tk hk => ⟨.str _, H, I.kept hk, ⟨_, rfl⟩, q⟩) hz
    | dct _ _ => cases r1; exact repr_of_reads' rd fs (fun z => hsm (fo z)) hgd (by omega) (fun _ _ e => e) (fun h' u tk hk => ⟨.str _, H, I.kept hk, ⟨_, rfl⟩, q⟩) hz
end OC

set_option Elab.async false
set_option linter.all false
set_option maxRecDepth 100000
set_option maxHeartbeats 2000000
/-! xs == [], xs != [], whatever xs holds -/
namespace OC
open PySem PySem.Spec PyProof.Rows L2
def rEqNil : R2 := fun x y H Q => ∃ l b xs, x = .ref l ∧ y = .ref b ∧ H l = some (.lst xs) ∧ H b = some (.lst []) ∧ Q (.bl xs.isEmpty) H
def rNeNil : R2 := fun x y H Q => ∃ l b xs, x = .ref l ∧ y = .ref b ∧ H l = some (.lst xs) ∧ H b = some (.lst []) ∧ Q (.bl (!xs.isEmpty)) H
theorem shaped_nil : SeqAt.shaped (.list []) = true := shaped_ints []
theorem op_eqNil {X : Cx} (hu : X.A.units + 64 < cLine) : OpR X (compareOp .Eq) rEqNil := by
  intro pins s σ H x y v u Q I rx ry h
  obtain ⟨l, b, xs, ex, ey, hl, hb, q⟩ := h
  cases xs with
  | nil =>
    subst ex ey
    exact op_eqD hu pins s σ H _ _ v u Q I rx ry ⟨.list [], .list [], .lst (.inl (.inl hl)) .nil, .lst (.inl (.inl hb)) .nil, shaped_nil, shaped_nil, q⟩
  | cons z r =>
    subst ex ey
    cases rx
    cases ry
    obtain ⟨its, r1, p1, _⟩ := I.list (.inl (.inl hl))
    obtain ⟨its2, r2, p2, _⟩ := I.list (.inl (.inl hb))
    have l1 := r1.length
    have l2 := r2.length
    refine SeqAt.eq_list_lengthsAt p1.isList p2.isList ?_ (by omega) ⟨.bl false, H, I, rfl, q⟩
    rw [List.size_toArray, List.size_toArray, ← l1, ← l2]
    rfl
theorem op_neNil {X : Cx} (hu : X.A.units + 64 < cLine) : OpR X (compareOp .NotEq) rNeNil := by
  intro pins s σ H x y v u Q I rx ry h
  obtain ⟨l, b, xs, ex, ey, hl, hb, q⟩ := h
  cases xs with
  | nil =>
    subst ex ey
    exact op_neD hu pins s σ H _ _ v u Q I rx ry ⟨.list [], .list [], .lst (.inl (.inl hl)) .nil, .lst (.inl (.inl hb)) .nil, shaped_nil, shaped_nil, q⟩
  | cons z r =>
    subst ex ey
    cases rx
    cases ry
    obtain ⟨its, r1, p1, _⟩ := I.list (.inl (.inl hl))
    obtain ⟨its2, r2, p2, _⟩ := I.list (.inl (.inl hb))
    have l1 := r1.length
    have l2 := r2.length
    have hd : (its.toArray.size != its2.toArray.size) = true := by
      rw [List.size_toArray, List.size_toArray, ← l1, ← l2]
      rfl
    exact SeqAt.RcNeAt.lists_lengths p1.isList p2.isList hd (by omega) X.prog X.w X.xe _ ⟨.bl true, H, I, rfl, q⟩
end OC

set_option Elab.async false
set_option linter.all false
set_option maxRecDepth 100000
set_option maxHeartbeats 1000000
/-! things as data: what repr and the judges ask of them -/
namespace OC
open PySem PySem.Spec PyProof.Rows L2
/-- nothing is bad -/
abbrev NB : Addr → Prop := fun _ => False
/-- of ints, tuples of ints, tuples of such -/
def Pu : Nat → PyData → Prop
  | 0, d => ∃ i : Int, d = .int i ∧ -1000000 ≤ i ∧ i ≤ 1000000
  | n + 1, d => ∃ ds : List PyData, d = .tuple ds ∧ ds.length ≤ 30 ∧ ∀ x ∈ ds, Pu n x
def oddD (p : Int) : List PyData := [.none, .bool true, .bool false, .int (-1), .int p, .int 0, .int 1, .int (10 ^ 29), .str "", .str "1", .tuple [], .tuple [.int 0], .list [], .list [.int 0], .dict [], .dict [(.str "a", .int 1)], .int (p - 1), .tuple [.tuple [.int 0]]]
/-- bent: an odd thing, or a pure one with one bent thing within -/
def Bt (p : Int) : Nat → PyData → Prop
  | 0, d => d ∈ oddD p ∨ ∃ i : Int, d = .int i ∧ -10000000 ≤ i ∧ i ≤ 10000000
  | n + 1, d => d ∈ oddD p ∨ (∃ as e bs, d = .tuple (as ++ e :: bs) ∧ as.length ≤ 30 ∧ bs.length ≤ 30 ∧ (∀ x ∈ as, Pu n x) ∧ (∀ x ∈ bs, Pu n x) ∧ Bt p n e) ∨
      (∃ ds, d = .tuple ds ∧ ds.length ≤ 60 ∧ ∀ x ∈ ds, Pu n x) ∨ (∃ ds, d = .list ds ∧ ds.length ≤ 60 ∧ ∀ x ∈ ds, Pu n x)
/-- fit for repr, with bounds -/
structure FitB (B k : Nat) (d : PyData) : Prop where
  len : d.shown.length ≤ B
  sh : d.showable = true
  dp : d.depth ≤ k
  ok : d.hasDict = true → lstless d = true
theorem FitB.mono {B B' k k' : Nat} {d : PyData} (h : FitB B k d) (hB : B ≤ B') (hk : k ≤ k') : FitB B' k' d := ⟨Nat.le_trans h.len hB, h.sh, Nat.le_trans h.dp hk, h.ok⟩
theorem FitB.fit {B k : Nat} {d : PyData} (h : FitB B k d) (hB : B ≤ 1000000) (hk : k ≤ 50) : Fit d := ⟨Nat.le_trans h.len hB, h.sh, Nat.le_trans h.dp hk, h.ok⟩
theorem log_small {i : Int} (h : i.natAbs < 10 ^ 40) : i.natAbs.log2 < 1920 := by
  by_cases hz : i.natAbs = 0
  · rw [hz]
    decide
  · exact (Nat.log2_lt hz).mpr (Nat.lt_of_lt_of_le h (by decide +kernel))
theorem fit_int {i : Int} (h : i.natAbs < 10 ^ 40) : FitB 50 0 (.int i) := by
  refine ⟨?_, ?_, by simp [PyData.depth], by simp [PyData.hasDict]⟩
  · have e := int_text_length_le10 (k := 40) (by decide) h
    show (Str.ofString (toString i)).length ≤ 50
    rw [PySem.ofString_length]
    omega
  · simp only [PyData.showable]
    exact decide_eq_true (log_small h)
theorem sum_le {B : Nat} : ∀ {ts : List Str}, (∀ t ∈ ts, t.length ≤ B) → (ts.map (·.length)).sum ≤ ts.length * B
  | [], _ => by simp
  | t :: r, h => by
    have h1 := h t List.mem_cons_self
    have h2 := sum_le (ts := r) fun x hx => h x (List.mem_cons_of_mem _ hx)
    rw [List.map_cons, List.sum_cons, List.length_cons, Nat.add_mul]
    omega
theorem shownAll_map : ∀ ds : List PyData, PyData.shownAll ds = ds.map PyData.shown
  | [] => by simp [PyData.shownAll]
  | d :: r => by simp [PyData.shownAll, shownAll_map r]
theorem showAll_of : ∀ {ds : List PyData}, (∀ d ∈ ds, d.showable = true) → PyData.showableAll ds = true
  | [], _ => by simp [PyData.showableAll]
  | d :: r, h => by simp [PyData.showableAll, h d List.mem_cons_self, showAll_of (ds := r) fun x hx => h x (List.mem_cons_of_mem _ hx)]
theorem depthAll_of {k : Nat} : ∀ {ds : List PyData}, (∀ d ∈ ds, d.depth ≤ k) → PyData.depthAll ds ≤ k
  | [], _ => by simp [PyData.depthAll]
  | d :: r, h => by
    have h1 := h d List.mem_cons_self
    have h2 := depthAll_of (ds := r) fun x hx => h x (List.mem_cons_of_mem _ hx)
    simp only [PyData.depthAll]
    omega
theorem hasDict_ex : ∀ {ds : List PyData}, PyData.hasDictAll ds = true → ∃ d ∈ ds, d.hasDict = true
  | [], h => by simp [PyData.hasDictAll] at h
  | d :: r, h => by
    have h' : d.hasDict = true ∨ PyData.hasDictAll r = true := by simpa [PyData.hasDictAll] using h
    rcases h' with h | h
    · exact ⟨d, List.mem_cons_self, h⟩
    · obtain ⟨x, m, e⟩ := hasDict_ex h
      exact ⟨x, List.mem_cons_of_mem _ m, e⟩
theorem lstlessAll_of : ∀ {ds : List PyData}, (∀ d ∈ ds, lstless d = true) → lstlessAll ds = true
  | [], _ => by simp [lstlessAll]
  | d :: r, h => by simp [lstlessAll, h d List.mem_cons_self, lstlessAll_of (ds := r) fun x hx => h x (List.mem_cons_of_mem _ hx)]
theorem fit_tuple {B k n : Nat} {ds : List PyData} (hl : ds.length ≤ n) (h : ∀ d ∈ ds, FitB B k d) (ok : PyData.hasDictAll ds = true → lstlessAll ds = true) : FitB (n * (B + 2) + 3) (k + 1) (.tuple ds) := by
  refine ⟨?_, ?_, ?_, ?_⟩
  · simp only [PyData.shown]
    refine Nat.le_trans (tupleText_len_le _) ?_
    rw [shownAll_map, List.length_map]
    have h1 := sum_le (B := B) (ts := ds.map PyData.shown) fun t ht => by
      obtain ⟨d, m, rfl⟩ := List.mem_map.mp ht
      exact (h d m).len
    rw [List.length_map] at h1
    have h2 : ds.length * (B + 2) ≤ n * (B + 2) := Nat.mul_le_mul_right _ hl
    rw [Nat.mul_add] at h2
    omega
  · simp only [PyData.showable]
    exact showAll_of fun d m => (h d m).sh
  · simp only [PyData.depth]
    have := depthAll_of fun d m => (h d m).dp
    omega
  · simp only [PyData.hasDict, lstless]
    exact ok
theorem fit_list {B k n : Nat} {ds : List PyData} (hl : ds.length ≤ n) (h : ∀ d ∈ ds, FitB B k d) (ok : PyData.hasDictAll ds = false) : FitB (n * (B + 2) + 3) (k + 1) (.list ds) := by
  refine ⟨?_, ?_, ?_, ?_⟩
  · simp only [PyData.shown]
    refine Nat.le_trans (listText_len_le _) ?_
    rw [shownAll_map, List.length_map]
    have h1 := sum_le (B := B) (ts := ds.map PyData.shown) fun t ht => by
      obtain ⟨d, m, rfl⟩ := List.mem_map.mp ht
      exact (h d m).len
    rw [List.length_map] at h1
    have h2 : ds.length * (B + 2) ≤ n * (B + 2) := Nat.mul_le_mul_right _ hl
    rw [Nat.mul_add] at h2
    omega
  · simp only [PyData.showable]
    exact showAll_of fun d m => (h d m).sh
  · simp only [PyData.depth]
    have := depthAll_of fun d m => (h d m).dp
    omega
  · simp only [PyData.hasDict, ok]
    exact fun z => nomatch z
theorem fit_odd {p : Int} (hp : p.natAbs < 10 ^ 30) : ∀ {d : PyData}, d ∈ oddD p → FitB 200 3 d := by
  intro d hd
  unfold oddD at hd
  simp only [List.mem_cons, List.not_mem_nil, or_false] at hd
  have big : (10 : Nat) ^ 30 < 10 ^ 40 := by decide
  rcases hd with rfl | rfl | rfl | rfl | rfl | rfl | rfl | rfl | rfl | rfl | rfl | rfl | rfl | rfl | rfl | rfl | rfl | rfl
  case inr.inr.inr.inr.inl => exact (fit_int (by omega)).mono (by omega) (by omega)
  case inr.inr.inr.inr.inr.inr.inr.inr.inr.inr.inr.inr.inr.inr.inr.inr.inl => exact (fit_int (by omega)).mono (by omega) (by omega)
  all_goals exact ⟨by decide +kernel, by decide +kernel, by decide +kernel, by decide +kernel⟩
theorem hasDictAll_no : ∀ {ds : List PyData}, (∀ d ∈ ds, d.hasDict = false) → PyData.hasDictAll ds = false
  | [], _ => by simp [PyData.hasDictAll]
  | d :: r, h => by simp [PyData.hasDictAll, h d List.mem_cons_self, hasDictAll_no (ds := r) fun x hx => h x (List.mem_cons_of_mem _ hx)]
theorem pu_no : ∀ (n : Nat) (d : PyData), Pu n d → d.hasDict = false ∧ lstless d = true
  | 0, _, ⟨i, rfl, _⟩ => by simp [PyData.hasDict, lstless]
  | n + 1, _, ⟨ds, rfl, _, h⟩ => by
    simp only [PyData.hasDict, lstless]
    exact ⟨hasDictAll_no fun d m => (pu_no n d (h d m)).1, lstlessAll_of fun d m => (pu_no n d (h d m)).2⟩
def fB : Nat → Nat
  | 0 => 50
  | n + 1 => 60 * (fB n + 2) + 3
theorem pu_fit : ∀ (n : Nat) (d : PyData), Pu n d → FitB (fB n) n d
  | 0, _, ⟨i, rfl, h1, h2⟩ => fit_int (Nat.lt_of_le_of_lt (show i.natAbs ≤ 1000000 by omega) (by decide))
  | n + 1, _, ⟨ds, rfl, hl, h⟩ => (fit_tuple (n := 60) (by omega) (fun d m => pu_fit n d (h d m)) fun z => by
      rw [hasDictAll_no fun d m => (pu_no n d (h d m)).1] at z
      cases z)
def gB : Nat → Nat
  | 0 => 200
  | n + 1 => 61 * (max (gB n) (fB n) + 2) + 3
theorem gB_ge : ∀ n : Nat, 200 ≤ gB n
  | 0 => by decide
  | n + 1 => by
    have := gB_ge n
    simp only [gB]
    omega
theorem bt_fit {p : Int} (hp : p.natAbs < 10 ^ 30) : ∀ (n : Nat) (d : PyData), Bt p n d → FitB (gB n) (n + 3) d
  | 0, _, .inl h => (fit_odd hp h).mono (Nat.le_refl _) (by omega)
  | 0, _, .inr ⟨i, rfl, h1, h2⟩ => (fit_int (Nat.lt_of_le_of_lt (show i.natAbs ≤ 10000000 by omega) (by decide))).mono (by decide) (by omega)
  | n + 1, _, .inl h => (fit_odd hp h).mono (gB_ge (n + 1)) (by omega)
  | n + 1, _, .inr (.inl ⟨as, e, bs, rfl, la, lb, ha, hb, he⟩) => by
    have fe := bt_fit hp n e he
    refine fit_tuple (n := 61) (B := max (gB n) (fB n)) (k := n + 3) (by rw [List.length_append, List.length_cons]; omega) (fun d m => ?_) (fun z => ?_)
    · rcases List.mem_append.mp m with m | m
      · exact (pu_fit n d (ha d m)).mono (Nat.le_max_right _ _) (by omega)
      · rcases List.mem_cons.mp m with rfl | m
        · exact fe.mono (Nat.le_max_left _ _) (by omega)
        · exact (pu_fit n d (hb d m)).mono (Nat.le_max_right _ _) (by omega)
    · obtain ⟨x, m, hx⟩ := hasDict_ex z
      have ee : e.hasDict = true := by
        rcases List.mem_append.mp m with m | m
        · rw [(pu_no n x (ha x m)).1] at hx
          cases hx
        · rcases List.mem_cons.mp m with rfl | m
          · exact hx
          · rw [(pu_no n x (hb x m)).1] at hx
            cases hx
      refine lstlessAll_of fun d m => ?_
      rcases List.mem_append.mp m with m | m
      · exact (pu_no n d (ha d m)).2
      · rcases List.mem_cons.mp m with rfl | m
        · exact fe.ok ee
        · exact (pu_no n d (hb d m)).2
  | n + 1, _, .inr (.inr (.inl ⟨ds, rfl, hl, h⟩)) => (fit_tuple (n := 61) (B := max (gB n) (fB n)) (k := n + 2) (by omega) (fun d m => (pu_fit n d (h d m)).mono (Nat.le_max_right _ _) (by omega)) fun z => by
      rw [hasDictAll_no fun d m => (pu_no n d (h d m)).1] at z
      cases z).mono (Nat.le_refl _) (by omega)
  | n + 1, _, .inr (.inr (.inr ⟨ds, rfl, hl, h⟩)) => (fit_list (n := 61) (B := max (gB n) (fB n)) (k := n + 2) (by omega) (fun d m => (pu_fit n d (h d m)).mono (Nat.le_max_right _ _) (by omega)) (hasDictAll_no fun d m => (pu_no n d (h d m)).1)).mono (Nat.le_refl _) (by omega)
/-- a row of rests, by data -/
def restD (p : Int) : PyData → Bool
  | .int i => decide (0 ≤ i) && decide (i < p)
  | _ => false
def isRowD (p n : Int) : PyData → Bool
  | .tuple ds => decide ((ds.length : Int) = n) && ds.all (restD p)
  | _ => false
/-- a tuple's length is within bounds -/
def lenOk : PyData → Prop
  | .tuple ds => ds.length ≤ 1000
  | _ => True
theorem rep_int_inv {K : PySem.W.Frag} {H : Hp} {bad : Addr → Prop} {i : Int} {d : PyData} (h : Rep K H bad (.int i) d) : d = .int i := by cases h; rfl
theorem rep_tup {K : PySem.W.Frag} {H : Hp} {bad : Addr → Prop} {v : V} {ds : List PyData} (h : Rep K H bad v (.tuple ds)) : ∃ a xs, v = .ref a ∧ SqT K H a xs ∧ RepAll K H bad xs ds := by
  cases h with
  | tup h1 h2 => exact ⟨_, _, rfl, h1, h2⟩
theorem row_rep {K : PySem.W.Frag} {H : Hp} {bad : Addr → Prop} {a : Addr} {r : List Int} (h : SqT K H a (r.map V.int)) : Rep K H bad (.ref a) (rowD r) := .tup h (repAll_ints r)
end OC

set_option Elab.async false
set_option linter.all false
set_option maxRecDepth 100000
set_option maxHeartbeats 1000000
/-! slices and sums of tuples, whichever tuple is told -/
namespace OC
open PySem PySem.Spec PyProof.Rows L2
theorem cut_whole {xs : List V} {lo hi : Option Int} (h : HT.sIx xs.length 0 lo = 0 ∧ HT.sIx xs.length xs.length hi = xs.length) : cutV xs lo hi = xs := by
  unfold cutV
  rw [h.1, h.2, List.drop_zero, Nat.sub_zero, List.take_length]
def rSlB (K : PySem.W.Frag) : V → Option Int → Option Int → Hp → VK → Prop := fun x lo hi H Q => ∃ a xs, x = .ref a ∧ SqT K H a xs ∧ ∀ p H', Same H H' → SqT K H' p (cutV xs lo hi) → Q (.ref p) H'
theorem sl_tupB {X : Cx} : SlR X (rSlB X.K) := by
  intro pins s σ H x v vl vu lo hi sl Q I rx hs pl pu h
  obtain ⟨a, xs, ex, hx, q⟩ := h
  exact sl_tupA pins s σ H x v vl vu lo hi sl Q I rx hs pl pu ⟨a, xs, ex, hx, fun hw => q a H (Same.refl H) (by rw [cut_whole hw]; exact hx), fun _ p np => q p _ (same_upd np) (.inl (.inl upd_same))⟩
def rCatB (K : PySem.W.Frag) : R2 := fun x y H Q => ∃ a b xs ys, x = .ref a ∧ y = .ref b ∧ SqT K H a xs ∧ SqT K H b ys ∧ xs.length + ys.length ≤ sizeLine ∧ ∀ p H', Same H H' → SqT K H' p (xs ++ ys) → Q (.ref p) H'
theorem op_catB {X : Cx} : OpR X (binaryOp .Add) (rCatB X.K) := by
  intro pins s σ H x y v u Q I rx ry h
  obtain ⟨a, b, xs, ys, ex, ey, hx, hy, hz, q⟩ := h
  refine op_catA pins s σ H x y v u Q I rx ry ⟨a, b, xs, ys, ex, ey, hx, hy, hz, fun z => q b H (Same.refl H) ?_, fun _ z => q a H (Same.refl H) ?_, fun _ _ p np => q p _ (same_upd np) (.inl (.inl upd_same))⟩
  · rw [z, List.nil_append]
    exact hy
  · rw [z, List.append_nil]
    exact hx
theorem cut_to {xs : List V} {i : Int} (h0 : 0 ≤ i) (h1 : i ≤ xs.length) : cutV xs none (some i) = xs.take i.toNat := by
  unfold cutV
  have e : HT.sIx xs.length xs.length (some i) = min i.toNat xs.length := by
    have := HT.sIx_nat xs.length xs.length i.toNat
    rw [show ((i.toNat : Nat) : Int) = i by omega] at this
    exact this
  rw [e, HT.sIx_none, List.drop_zero, Nat.sub_zero]
  congr 1
  omega
theorem cut_from {xs : List V} {i : Int} (h0 : 0 ≤ i) (h1 : i ≤ xs.length) : cutV xs (some i) none = xs.drop i.toNat := by
  unfold cutV
  have e : HT.sIx xs.length 0 (some i) = min i.toNat xs.length := by
    have := HT.sIx_nat xs.length 0 i.toNat
    rw [show ((i.toNat : Nat) : Int) = i by omega] at this
    exact this
  rw [e, HT.sIx_none, show min i.toNat xs.length = i.toNat by omega]
  exact List.take_of_length_le (by rw [List.length_drop]; omega)
/-- any cut is a sublist of neighbours -/
theorem cut_mem {xs : List V} {lo hi : Option Int} : ∃ i k, cutV xs lo hi = (xs.drop i).take k := ⟨_, _, rfl⟩
section
variable {K : PySem.W.Frag} {H : Hp} {bad : Addr → Prop}
theorem repAll_take : ∀ {xs : List V} {ds : List PyData} (k : Nat), RepAll K H bad xs ds → RepAll K H bad (xs.take k) (ds.take k)
  | _, _, 0, _ => .nil
  | _, _, _ + 1, .nil => .nil
  | _, _, k + 1, .cons h t => .cons h (repAll_take k t)
theorem repAll_drop : ∀ {xs : List V} {ds : List PyData} (k : Nat), RepAll K H bad xs ds → RepAll K H bad (xs.drop k) (ds.drop k)
  | _, _, 0, h => h
  | _, _, _ + 1, .nil => .nil
  | _, _, k + 1, .cons _ t => repAll_drop k t
theorem repAll_rev {xs : List V} {ds : List PyData} (h : RepAll K H bad xs ds) : RepAll K H bad xs.reverse ds.reverse := by
  induction ds generalizing xs with
  | nil => cases h; exact .nil
  | cons d r ih =>
    cases h with
    | cons h1 h2 =>
      rw [List.reverse_cons, List.reverse_cons]
      exact repAll_append (ih h2) (.cons h1 .nil)
end
mutual
theorem rep_weak {K : PySem.W.Frag} {b1 b2 : Addr → Prop} {H : Hp} (e : ∀ a, b2 a → b1 a) : ∀ (d : PyData) (v : V), Rep K H b1 v d → Rep K H b2 v d
  | .none, _, h => by cases h; exact .non
  | .bool b, _, h => by cases h; exact .bl b
  | .int i, _, h => by cases h; exact .int i
  | .str x, _, h => by cases h; exact .str x
  | .list ds, _, h => by
    cases h with
    | lst hs hb ha => exact .lst hs (fun z => hb (e _ z)) (repAll_weak e ds _ ha)
  | .tuple ds, _, h => by
    cases h with
    | tup hs ha => exact .tup hs (repAll_weak e ds _ ha)
  | .dict _, _, h => by
    cases h with
    | dct hs hf => exact .dct hs hf
theorem repAll_weak {K : PySem.W.Frag} {b1 b2 : Addr → Prop} {H : Hp} (e : ∀ a, b2 a → b1 a) : ∀ (ds : List PyData) (vs : List V), RepAll K H b1 vs ds → RepAll K H b2 vs ds
  | [], _, h => by cases h; exact .nil
  | d :: ds, _, h => by
    cases h with
    | cons h1 h2 => exact .cons (rep_weak e d _ h1) (repAll_weak e ds _ h2)
end
/-- a pure thing holds no list: it is a thing whatever is bad, and stays as tuples do -/
theorem rep_pure {K : PySem.W.Frag} {b1 b2 : Addr → Prop} {H H' : Hp} (t : Tk H H') : ∀ (n : Nat) (d : PyData) (v : V), Pu n d → Rep K H b1 v d → Rep K H' b2 v d
  | 0, _, _, ⟨i, e, _⟩, h => by
    subst e
    cases h
    exact .int i
  | n + 1, _, _, ⟨ds, e, _, hp⟩, h => by
    subst e
    cases h with
    | tup hs ha =>
      refine .tup (t _ _ _ hs) ?_
      have go : ∀ (ds : List PyData) (xs : List V), (∀ x ∈ ds, Pu n x) → RepAll K H b1 xs ds → RepAll K H' b2 xs ds := by
        intro ds
        induction ds with
        | nil => intro xs _ h; cases h; exact .nil
        | cons d r ih =>
          intro xs hp h
          cases h with
          | cons h1 h2 => exact .cons (rep_pure t n d _ (hp d List.mem_cons_self) h1) (ih _ (fun x hx => hp x (List.mem_cons_of_mem _ hx)) h2)
      exact go ds _ hp ha
theorem repAll_pure {K : PySem.W.Frag} {b1 b2 : Addr → Prop} {H H' : Hp} (t : Tk H H') (n : Nat) : ∀ (ds : List PyData) (xs : List V), (∀ x ∈ ds, Pu n x) → RepAll K H b1 xs ds → RepAll K H' b2 xs ds
  | [], _, _, h => by cases h; exact .nil
  | d :: r, _, hp, h => by
    cases h with
    | cons h1 h2 => exact .cons (rep_pure t n d _ (hp d List.mem_cons_self) h1) (repAll_pure t n r _ (fun x hx => hp x (List.mem_cons_of_mem _ hx)) h2)
end OC

set_option Elab.async false
set_option linter.all false
set_option maxRecDepth 100000
set_option maxHeartbeats 1000000
/-! comprehensions over lists and tuples of things -/
namespace OC
open PySem PySem.Spec PyProof.Rows L2
mutual
theorem rep_fresh {K : PySem.W.Frag} {bad : Addr → Prop} {H : Hp} {B : Addr} (n : H B = none) : ∀ (d : PyData) (v : V), Rep K H bad v d → Rep K H (fun a => bad a ∨ a = B) v d
  | .none, _, h => by cases h; exact .non
  | .bool b, _, h => by cases h; exact .bl b
  | .int i, _, h => by cases h; exact .int i
  | .str x, _, h => by cases h; exact .str x
  | .list ds, _, h => by
    cases h with
    | lst hs hb ha => exact .lst hs (fun z => z.elim hb (fun e => by subst e; rw [n] at hs; cases hs)) (repAll_fresh n ds _ ha)
  | .tuple ds, _, h => by
    cases h with
    | tup hs ha => exact .tup hs (repAll_fresh n ds _ ha)
  | .dict _, _, h => by
    cases h with
    | dct hs hf => exact .dct hs hf
theorem repAll_fresh {K : PySem.W.Frag} {bad : Addr → Prop} {H : Hp} {B : Addr} (n : H B = none) : ∀ (ds : List PyData) (vs : List V), RepAll K H bad vs ds → RepAll K H (fun a => bad a ∨ a = B) vs ds
  | [], _, h => by cases h; exact .nil
  | d :: ds, _, h => by
    cases h with
    | cons h1 h2 => exact .cons (rep_fresh n d _ h1) (repAll_fresh n ds _ h2)
end
theorem upd_stays {bad : Addr → Prop} {H H' : Hp} {D : Addr} {xs ys : List V} (s : Stays bad H H') (h : H' D = some (.lst xs)) (bD : bad D) : Stays bad H (upd H' D (.lst ys)) := by
  refine ⟨s.t.mut h, fun a zs q => ?_, fun a zs q n => ?_⟩
  · have := s.d a zs q
    rw [upd_ne (fun z => by subst z; rw [h] at this; cases this)]
    exact this
  · rw [upd_ne (fun z => n (by rw [z]; exact bD))]
    exact s.l a zs q n
theorem Same.some {H H' : Hp} (s : Same H H') {a : Addr} (h : H a ≠ none) : H' a ≠ none := by
  rcases hq : H a with _ | o
  · exact absurd hq h
  · rw [s a o hq]
    exact fun z => nomatch z
/-- what is new at D or behind H -/
abbrev NewBy (H : Hp) (D : Addr) : Addr → Prop := fun a => H a ≠ none ∨ a = D
/-- a comprehension [f(x) for x in xs]: each thing to a thing, new ones alone -/
theorem lc_mapR {K : PySem.W.Frag} {J : It} {G : Hp → Prop} {vs : List V} {ds : List PyData} {σ : L2.St} {H : Hp} {Qd : Addr → Hp → Prop} {i : Nat} {sl : List Nat} {te : TE} (F : PyData → PyData)
    (w : Walk J vs.length G (YAt vs)) (hG : ∀ H', Same H H' → G H') (hD : RepAll K H NB vs ds) (hz : vs.length ≤ 1000) (hw : ∀ x : Option V, wipe ((wipe σ sl).set i x) sl = wipe σ sl)
    (hte : ∀ (v : V) (d : PyData) (H' : Hp) (Q' : VK), d ∈ ds → Rep K H' NB v d → Same H H' → (∀ v' H'', Same H' H'' → Rep K H'' (fun a => H' a ≠ none) v' (F d) → Q' v' H'') → te ((wipe σ sl).set i (some v)) H' Q')
    (hd : ∀ D H' ws, Same H H' → H D = none → H' D = some (.lst ws) → RepAll K H' (NewBy H D) ws (ds.map F) → Qd D H') :
    LcGoal J (gName i) tYes te sl σ H Qd := by
  intro D nD
  have lv := repAll_len hD
  refine lc_it w (fun k H' => Same H H' ∧ ∃ ws, H' D = some (.lst ws) ∧ ws.length = k ∧ RepAll K H' (NewBy H D) ws ((ds.take k).map F)) ⟨same_mut (Same.refl H) nD, [], upd_same, rfl, .nil⟩ (fun k H' _ hP => hG H' hP.1) (fun k x H1 H2 hk hP hY => ?_) (fun H' hP => ?_)
  · obtain ⟨rfl, e1⟩ := hY
    obtain ⟨sm, ws, eD, lw, rw_⟩ := hP
    obtain ⟨d, g, md, rx⟩ := repAll_get hD e1
    refine ⟨hw _, hte x d _ _ md (rep_stays (Stays.of sm) _ _ rx) sm fun v' H'' s2 rv => ?_⟩
    have eD2 := s2 _ _ eD
    refine ⟨ws, eD2, small1000 (by omega), same_mut (sm.trans s2) nD, ws ++ [v'], upd_same, by rw [List.length_append, lw]; rfl, ?_⟩
    rw [List.take_add_one, g, List.map_append]
    refine repAll_append (repAll_stays (upd_stays (Stays.of s2) eD2 (.inr rfl)) _ _ rw_) (.cons ?_ .nil)
    refine rep_stays (upd_stays (Stays.of (Same.refl H'')) eD2 (.inr rfl)) _ _ (rep_weak (fun a ha => ?_) _ _ rv)
    rcases ha with h | h
    · exact Same.some sm h
    · subst h
      rw [eD]
      exact fun z => nomatch z
  · obtain ⟨sm, ws, eD, lw, rw_⟩ := hP
    rw [List.take_of_length_le (by omega)] at rw_
    exact hd D H' ws sm nD eD rw_
/-- [x for x in xs if t] -/
theorem lc_filterR {K : PySem.W.Frag} {J : It} {G : Hp → Prop} {vs : List V} {ds : List PyData} {σ : L2.St} {H : Hp} {Qd : Addr → Hp → Prop} {i : Nat} {sl : List Nat} {tt : TT} (q : PyData → Bool)
    (w : Walk J vs.length G (YAt vs)) (hG : ∀ H', Same H H' → G H') (hD : RepAll K H NB vs ds) (hz : vs.length ≤ 1000) (hw : ∀ x : Option V, wipe ((wipe σ sl).set i x) sl = wipe σ sl) (hi : i < (wipe σ sl).length)
    (htt : ∀ (v : V) (d : PyData) (H' : Hp) (Q' : Bool → Hp → Prop), d ∈ ds → Rep K H' NB v d → Same H H' → (∀ H'', Same H' H'' → Q' (q d) H'') → tt ((wipe σ sl).set i (some v)) H' Q')
    (hd : ∀ D H' ws, Same H H' → H D = none → H' D = some (.lst ws) → RepAll K H' NB ws (ds.filter q) → Qd D H') :
    LcGoal J (gName i) tt (tVar i) sl σ H Qd := by
  intro D nD
  have lv := repAll_len hD
  have hDf := repAll_fresh nD _ _ hD
  refine lc_it w (fun k H' => Same H H' ∧ ∃ ws, H' D = some (.lst ws) ∧ ws.length ≤ k ∧ RepAll K H' (fun a => NB a ∨ a = D) ws ((ds.take k).filter q)) ⟨same_mut (Same.refl H) nD, [], upd_same, Nat.le_refl _, .nil⟩ (fun k H' _ hP => hG H' hP.1) (fun k x H1 H2 hk hP hY => ?_) (fun H' hP => ?_)
  · obtain ⟨rfl, e1⟩ := hY
    obtain ⟨sm, ws, eD, lw, rw_⟩ := hP
    obtain ⟨d, g, md, rx⟩ := repAll_get hD e1
    obtain ⟨d', g', _, rx'⟩ := repAll_get hDf e1
    have edd : d' = d := Option.some.inj (g'.symm.trans g)
    subst edd
    refine ⟨hw _, htt x d' _ _ md (rep_stays (Stays.of sm) _ _ rx) sm fun H'' s2 => ?_⟩
    have eD2 := s2 _ _ eD
    have tk : (ds.take (k + 1)).filter q = (ds.take k).filter q ++ (if q d' = true then [d'] else []) := by
      rw [List.take_add_one, g, List.filter_append]
      congr 1
      by_cases hq : q d' = true
      · simp [hq]
      · simp [hq]
    by_cases hq : q d' = true
    · rw [hq]
      refine iteT ⟨x, by rw [List.getElem?_set_self hi], ws, eD2, small1000 (by omega), same_mut (sm.trans s2) nD, ws ++ [x], upd_same, by rw [List.length_append]; simp; omega, ?_⟩
      rw [tk, if_pos hq]
      refine repAll_append (repAll_stays (upd_stays (Stays.of s2) eD2 (.inr rfl)) _ _ rw_) (.cons ?_ .nil)
      exact rep_stays (upd_stays (Stays.of (sm.trans s2)) eD2 (.inr rfl)) _ _ rx'
    · have hq' : q d' = false := by simpa using hq
      rw [hq']
      refine iteF ⟨sm.trans s2, ws, eD2, by omega, ?_⟩
      rw [tk, if_neg hq, List.append_nil]
      exact repAll_stays (Stays.of s2) _ _ rw_
  · obtain ⟨sm, ws, eD, lw, rw_⟩ := hP
    rw [List.take_of_length_le (by omega)] at rw_
    exact hd D H' ws sm nD eD (repAll_weak (fun _ h => h.elim) _ _ rw_)
/-- ints of a list of ints -/
theorem lc_listI {K : PySem.W.Frag} {a : Addr} {xs : List Int} {σ : L2.St} {H : Hp} {Qd : Addr → Hp → Prop} {i : Nat} {vs : List Nat} {te : TE} (f : Int → Int) (hA : SqL K H a (xs.map V.int)) (hz : xs.length ≤ 1000)
    (hw : ∀ x : Option V, wipe ((wipe σ vs).set i x) vs = wipe σ vs)
    (hte : ∀ (x : Int) (H' : Hp) (Q' : VK), x ∈ xs → Same H H' → Q' (.int (f x)) H' → te ((wipe σ vs).set i (some (.int x))) H' Q')
    (hd : ∀ D H', Same H H' → H D = none → H' D = some (.lst ((xs.map f).map V.int)) → Qd D H') :
    LcGoal (Itl K a) (gName i) tYes te vs σ H Qd := by
  intro D nD
  refine lc_it (walk_list (K := K) (a := a) (xs := xs.map V.int)) (fun k H' => Same H H' ∧ H' D = some (.lst (((xs.map f).take k).map V.int))) ⟨same_mut (Same.refl H) nD, upd_same⟩ (fun k H' _ hP => hP.1.seq hA) (fun k x H1 H2 hk hP hY => ?_) (fun H' hP => hd D H' hP.1 nD ?_)
  · obtain ⟨rfl, e1⟩ := hY
    obtain ⟨sm, eD⟩ := hP
    rw [List.getElem?_map] at e1
    cases h1 : xs[k]? with
    | none => rw [h1] at e1; cases e1
    | some z1 =>
      rw [h1] at e1
      have q1 : x = V.int z1 := (Option.some.inj e1).symm
      subst q1
      refine ⟨hw _, hte z1 _ _ (List.mem_of_getElem? h1) sm ⟨_, eD, ?_, same_mut sm nD, ?_⟩⟩
      · rw [List.length_map, List.length_take, List.length_map]
        exact small1000 (by omega)
      · rw [upd_same, List.take_add_one, List.getElem?_map, h1, List.map_append]
        rfl
  · obtain ⟨sm, eD⟩ := hP
    rw [eD, List.take_of_length_le]
    rw [List.length_map, List.length_map]
    exact Nat.le_refl _
theorem lc_zipLI {K : PySem.W.Frag} {a b : Addr} {xs ys : List Int} {σ : L2.St} {H : Hp} {Qd : Addr → Hp → Prop} {i j : Nat} {vs : List Nat} {te : TE} (f : Int → Int → Int) (hA : SqL K H a (xs.map V.int)) (hB : SqL K H b (ys.map V.int)) (hz : xs.length ≤ 1000)
    (hw : ∀ x y : Option V, wipe (((wipe σ vs).set i x).set j y) vs = wipe σ vs)
    (hte : ∀ (x y : Int) (H' : Hp) (Q' : VK), x ∈ xs → y ∈ ys → Same H H' → Q' (.int (f x y)) H' → te (((wipe σ vs).set i (some (.int x))).set j (some (.int y))) H' Q')
    (hd : ∀ D H', Same H H' → H D = none → H' D = some (.lst ((List.zipWith f xs ys).map V.int)) → Qd D H') :
    LcGoal (Itz K a b) (gTup K 2 (gCons (gName i) (gCons (gName j) gNil))) tYes te vs σ H Qd := by
  intro D nD
  refine lc_it (walk_zip (K := K) (a := a) (b := b) (xs := xs.map V.int) (ys := ys.map V.int) rfl) (fun k H' => Same H H' ∧ H' D = some (.lst (((List.zipWith f xs ys).take k).map V.int))) ⟨same_mut (Same.refl H) nD, upd_same⟩ (fun k H' _ hP => ⟨hP.1.seq hA, hP.1.seq hB⟩) (fun k x H1 H2 hk hP hY => ?_) (fun H' hP => hd D H' hP.1 nD ?_)
  · obtain ⟨Ta, x1, y1, rfl, nT, rfl, e1, e2⟩ := hY
    obtain ⟨sm, eD⟩ := hP
    have sT : Same H1 (upd H1 Ta (.tup [x1, y1])) := same_upd nT
    have e1 : (xs.map V.int)[k]? = some x1 := e1
    have e2 : (ys.map V.int)[k]? = some y1 := e2
    rw [List.getElem?_map] at e1 e2
    cases h1 : xs[k]? with
    | none => rw [h1] at e1; cases e1
    | some z1 =>
      cases h2 : ys[k]? with
      | none => rw [h2] at e2; cases e2
      | some z2 =>
        rw [h1] at e1
        rw [h2] at e2
        have q1 : x1 = V.int z1 := (Option.some.inj e1).symm
        have q2 : y1 = V.int z2 := (Option.some.inj e2).symm
        subst q1 q2
        refine ⟨Ta, [.int z1, .int z2], rfl, .inl (.inl upd_same), rfl, .int z1, [.int z2], rfl, .int z2, [], rfl, rfl, hw _ _, ?_⟩
        refine hte z1 z2 _ _ (List.mem_of_getElem? h1) (List.mem_of_getElem? h2) (sm.trans sT) ⟨_, sT _ _ eD, ?_, same_mut (sm.trans sT) nD, ?_⟩
        · rw [List.length_map, List.length_take, List.length_zipWith]
          exact small1000 (by omega)
        · rw [upd_same, List.take_add_one, List.getElem?_zipWith, h1, h2, List.map_append]
          rfl
  · obtain ⟨sm, eD⟩ := hP
    rw [eD, List.take_of_length_le]
    rw [List.length_zipWith, List.length_map, List.length_map]
    exact Nat.le_refl _
end OC

set_option Elab.async false
set_option linter.all false
set_option maxRecDepth 100000
set_option maxHeartbeats 2000000
/-! enumerate(t) of a tuple, in a for -/
namespace OC
open PySem PySem.Spec PyProof.Rows L2
open Sem (wp)
theorem meets_enum1 {v : Value} {ob : Obj} {G : Heap → Prop} (B : Begins v ob G) : Meets (Builtin.«enumerate.__new__» ⟨[.type "enumerate", v], []⟩) (fun _ R s => G s.heap ∧ R (.ok (.ret (.ref (s.heap.push ob).objs.size))) { s with heap := (s.heap.push ob).push { cls := .type "enumerate", data := .fields #[.none, .bool false, .ref s.heap.objs.size, rawInt 0, .none, .none] } }) :=
  .of_wp fun P w A R s z => by
    obtain ⟨hp, g, d, tk, os⟩ := s
    obtain ⟨z1, z⟩ := z
    have hsub := sub_enumerate
    have q1 : ∀ {A' : Around} {E' : Value → Shared → Prop} {Q' : Value → Shared → Prop}, Q' (.ref hp.objs.size) ⟨hp.push ob, g, d, tk, os⟩ → wpAny (model P w) A' (pyIter v) Q' E' ⟨hp, g, d, tk, os⟩ := fun y => B.iter P w _ _ ⟨hp, g, d, tk, os⟩ _ z1 y
    wp_walk using q1
    refine wpAny_stack_any fun _ => wpAny_pure ?_
    split
    · rename_i c _ _ _ _ _
      cases (c == Value.type "enumerate") <;> (wp_walk using q1; exact ⟨_, rfl, z⟩)
    · wp_walk using q1
      exact ⟨_, rfl, z⟩
section
variable {P : Program} {w : World} {A : Around} {E : Value → Shared → Prop} {s : Shared}
theorem call_enumB {v : Value} {ob : Obj} {G : Heap → Prop} {Q : Value → Shared → Prop} (B : Begins v ob G) (g : G s.heap)
    (q : ∀ h1 : Heap, IsEnum h1 (s.heap.objs.size + 1) s.heap.objs.size 0 .none → h1.get? s.heap.objs.size = some ob → (∀ b o, s.heap.get? b = some o → h1.get? b = some o) → Q (.ref (s.heap.objs.size + 1)) { s with heap := h1 }) : wpAny (model P w) A (call (.type "enumerate") [v]) Q E s := by
  refine callType_new F.called_enumerate (by decide) (F.typeCall_enumerate_1 _) (F.newCall_enumerate_1 _) (fun z => F.args_object_init_2 z _) F.entry_enumerate_new (meets_enum1 B) ⟨g, ?_⟩
  have sz : (s.heap.push ob).objs.size = s.heap.objs.size + 1 := Heap.size_push ..
  show _ ∧ _
  rw [sz]
  have en : IsEnum ((s.heap.push ob).push { cls := .type "enumerate", data := .fields #[.none, .bool false, .ref s.heap.objs.size, rawInt 0, .none, .none] }) (s.heap.objs.size + 1) s.heap.objs.size 0 .none := by
    have z := Heap.get?_push_size (s.heap.push ob) (o := { cls := .type "enumerate", data := .fields #[.none, .bool false, .ref s.heap.objs.size, rawInt 0, .none, .none] }) rfl
    rw [sz] at z
    exact z
  exact ⟨⟨_, en, rfl⟩, q _ en (Heap.get?_push_of_some _ (Heap.get?_push_size _ B.free)) fun b o z => Heap.get?_push_of_some _ (Heap.get?_push_of_some _ z)⟩
end
/-- the tuple at a, each item in a new pair -/
def IteT (K : PySem.W.Frag) (a : Addr) : It :=
  ⟨fun i H => ∃ (xs : List V) (x : V), SqT K H a xs ∧ xs[i]? = some x,
   fun i H v H' => ∃ T x, v = .ref T ∧ H T = none ∧ H' = upd H T (.tup [.int (i : Nat), x]) ∧ ∀ xs, SqT K H a xs → xs[i]? = some x,
   fun i H => ∃ xs : List V, SqT K H a xs ∧ xs.length ≤ i⟩
theorem turn_enumT {P : Program} {w : World} {K : PySem.W.Frag} {elts : List Expr} {kk : Nat} {tp : Pos} (a e it : Addr) :
    Turn P w K (.Tuple elts kk tp) (IteT K a) [e, it] e (fun i h => (∃ old, IsEnum h e it ((i : Nat) : Int) old) ∧ h.IsTupleIter it a i ∧ e ≠ it) where
  mem := by simp
  obj := fun i h st b hb => by
    obtain ⟨⟨old, he⟩, ⟨o, ho, hc, hd⟩, _⟩ := st
    rcases (by simpa using hb : b = e ∨ b = it) with z | z
    · subst z; exact ⟨_, he, fun v y => nomatch y⟩
    · subst z; exact ⟨o, ho, fun v y => by rw [hd] at y; cases y⟩
  keep := fun i h h' st k => by
    obtain ⟨⟨old, he⟩, hi, ne⟩ := st
    exact ⟨⟨old, k e (by simp) _ he⟩, hi.at fun o y => k it (by simp) o y, ne⟩
  item := by
    intro X hP hw hK hc i pins s σ H E I hf st hg
    subst hP hw hK
    obtain ⟨⟨old, he⟩, hit, ne⟩ := st
    obtain ⟨xs, x, hq, hx⟩ := hg
    obtain ⟨its, rv, tp, hz⟩ := I.tuple hq
    obtain ⟨u, hu, ru⟩ := rv.get hx
    have hel : e < s.heap.objs.size := Heap.lt_size he
    have hil : it < s.heap.objs.size := by obtain ⟨_, y, _⟩ := hit; exact Heap.lt_size y
    have ta : s.heap.IsTuple a its.toArray := tp
    have ai : a ≠ it := fun z => by
      obtain ⟨o1, g1, c1, _⟩ := ta
      obtain ⟨o2, g2, c2, _⟩ := hit
      rw [z, g2] at g1
      rw [← Option.some.inj g1, c2] at c1
      exact absurd (Value.type.inj c1) (by decide)
    have ea : e ≠ a := fun z => by
      obtain ⟨o1, g1, c1, _⟩ := ta
      have he' : s.heap.get? e = some _ := he
      rw [z, g1] at he'
      have := Option.some.inj he'
      rw [this] at c1
      exact absurd (Value.type.inj c1) (by decide)
    have hlt : i < its.toArray.size := by
      have := (List.getElem?_eq_some_iff.mp hu).1
      simpa using this
    refine wpAny_pyNext_enum_itemD (Draws.tuple (A := X.A.in1) (I.ok.hd hc) it a ai its.toArray) he ⟨hit, ta⟩ hlt ne (by simp [ne, ea]) fun u' h1 tk hu' ho st1 hT hsz hk => ?_
    have eu : u' = u := by
      have e1 : its.toArray[i]? = some u := by simpa using hu
      rw [e1] at hu'
      exact (Option.some.inj hu').symm
    subst eu
    refine ⟨_, rfl, wpAny_letOwnedTupleGo_enum (s := { s with heap := h1, toks := tk + 1 }) ho fun h2 he' sb => ?_⟩
    have hT2 : h2.get? s.heap.objs.size = some { cls := .type "tuple", data := .seq #[.int i tk, u'] } := (sb.2 _ (Nat.ne_of_gt hel)).trans hT
    have new : ObjOk X.prog X.w (upd H s.heap.objs.size (.tup [.int (i : Nat), x])) h2 s.heap.objs.size (.tup [.int (i : Nat), x]) := ⟨(by decide : 2 ≤ sizeLine), [.int i tk, u'], .cons ⟨_, rfl⟩ (.cons ru .nil), ⟨_, hT2, rfl, _, rfl⟩⟩
    have I1 : Inv X pins σ (upd H s.heap.objs.size (.tup [.int (i : Nat), x])) { s with heap := h2, toks := tk + 1 } :=
      I.turnedNew (t' := tk + 1) (ch := [e, it]) (fun b ob nb y => (sb.2 b (fun z => nb (by simp [z]))).trans (hk b ob (fun z => nb (by simp [z])) (fun z => nb (by simp [z])) y)) hf (Nat.le_refl _) new
    refine ⟨.ref s.heap.objs.size, _, I1, rfl, ⟨_, x, rfl, I.hok.fresh (Nat.le_refl _), rfl, fun ys hy => by rw [I.tuple_inj hy hq]; exact hx⟩, ⟨⟨u', ?_⟩, st1.1.at fun o y => (sb.2 it (Ne.symm ne)).trans y, ne⟩, fun b hb => ?_⟩
    · rw [show ((i + 1 : Nat) : Int) = (i : Int) + 1 from by omega]
      exact he'
    · have lb : b < s.heap.objs.size := by
        rcases (by simpa using hb : b = e ∨ b = it) with z | z
        · exact z ▸ hel
        · exact z ▸ hil
      rw [upd_ne (Nat.ne_of_lt lb)]
      exact (hf b hb).1
  done := by
    intro X hP hw hK hc i pins s σ H E I hf st hg
    subst hP hw hK
    obtain ⟨⟨old, he⟩, hit, ne⟩ := st
    obtain ⟨xs, hq, hx⟩ := hg
    obtain ⟨its, rv, tp, hz⟩ := I.tuple hq
    obtain ⟨f0, f1, f2, f3, f4, f5⟩ := hf it (by simp)
    have ta : s.heap.IsTuple a its.toArray := tp
    have hl := rv.length
    have hh : X.A.in1.handled = none := I.ok.hd hc
    have hT : s.TypeIs (.ref e) "enumerate" := ⟨_, he, rfl⟩
    unfold pyNext
    refine wpAny_bind (wpAny_attempt (wpAny_callSpecial?_slot (name := Str.ofString "__next__") hT F.slot_enumerate_next (wpAny_call_entry F.slot_enumerate_next hT F.entry_enumerate_next ?_ (F.args_enumerate_next_1 _))))
    show wpAny _ _ (field (.ref e) 2 >>= _) _ _ s
    refine wpAny_bind (wpAny_field he rfl (x := .ref it) rfl (wpAny_bind (wpAny_nextOf_tuple_end hh hit ta (by simp; omega) fun h1 x eb hx' => ?_)))
    obtain ⟨o, ho, hcl⟩ := hx'
    refine wpAny_bind (wpAny_isInstance (T := "StopIteration") (b := true) ⟨o, ho, hcl⟩ isSubtype_stop (wpAny_pure ?_))
    exact ⟨rfl, I.turned (t' := s.toks) (fun b o nb y => eb b o nb y) f0 f1 f3 f4 f5⟩
  self := fun A i s Q E st h => by
    obtain ⟨⟨_, he⟩, _⟩ := st
    exact wpAny_pyIter_enum he h
def iEnumT (K : PySem.W.Frag) (ta : TA) : TI := fun σ H R => ta σ H fun vs H1 => ∃ a xs, vs = [.ref a] ∧ SqT K H1 a xs ∧ R (IteT K a) H1
theorem pi_enumT {X : Cx} {e : Expr} {ta : TA} {p pos tpos : Pos} {elts : List Expr} {kk : Nat} (hg : Gl X "enumerate") (hm : X.mg "enumerate" = none) (ha : PA X [e] ta) (hs : starEach [e] X.env = [(false, eval e X.env)] := by rfl) : PI X (.Tuple elts kk tpos) (.Call (.Name "enumerate" p) [e] [] pos) (iEnumT X.K ta) := by
  refine ⟨fun pins s σ H R I h => Call_ (ld_blt I hg hm boot_enumerate (PyProof.Rows.callWith_type1 (thn (ha.run pos pins s σ H _ I h) fun us s1 ⟨vs, H1, I1, r1, q1⟩ => ?_) hs rfl))⟩
  obtain ⟨a, xs, rfl, hq, q⟩ := q1
  cases r1 with
  | cons r rr =>
    cases rr
    cases r
    obtain ⟨its, rv, tp, hz⟩ := I1.tuple hq
    refine call_enumB (begins_tuple a its.toArray) tp fun h1 he hit hk => wpAny_pyIter_enum he ?_
    refine ⟨s1.heap.objs.size + 1, [s1.heap.objs.size + 1, s1.heap.objs.size], _, _, H1, rfl, I1.kept (t' := s1.toks) hk, turn_enumT a (s1.heap.objs.size + 1) s1.heap.objs.size, ⟨⟨.none, he⟩, ⟨_, hit, rfl, rfl⟩, Nat.succ_ne_self _⟩, fun b hb => ?_, q⟩
    have hle : s1.heap.objs.size ≤ b := by
      rcases (by simpa using hb : b = s1.heap.objs.size + 1 ∨ b = s1.heap.objs.size) with z | z
      · rw [z]; exact Nat.le_add_right _ _
      · rw [z]; exact Nat.le_refl _
    exact I1.fpOk hle (I1.hok.fresh hle)
theorem walk_enumT {K : PySem.W.Frag} {a : Addr} {xs : List V} : Walk (IteT K a) xs.length (fun H => SqT K H a xs) (YPair (fun i => some (.int (i : Nat))) (fun i => xs[i]?)) where
  goes i H hi q := ⟨xs, xs[i], q, List.getElem?_eq_getElem hi⟩
  stops H q := ⟨xs, q, Nat.le_refl _⟩
  yields i H v H' _ q y := by
    obtain ⟨T, x, ev, nT, eH, gx⟩ := y
    exact ⟨T, _, x, ev, nT, eH, rfl, gx xs q⟩
end OC

set_option Elab.async false
set_option linter.all false
set_option maxRecDepth 100000
set_option maxHeartbeats 2000000
/-! sorted(xs, reverse=True) of tuples of as many rests each -/
namespace OC
open PySem PySem.Spec PyProof.Rows L2 SrtO
section
variable {P : Program} {w : World} {A : Around} {s : Shared}
def ltT (h : Heap) (B : Int) : Value → Value → Bool := fun v u => decide (TS.code B (TS.intsOf h v) < TS.code B (TS.intsOf h u))
theorem swo_T (h : Heap) (B : Int) : Swo (ltT h B) where
  asym x y e := by
    have := of_decide_eq_true e
    exact decide_eq_false (by omega)
  tr x y z e1 e2 := by
    have h1 := of_decide_eq_false e1
    have h2 := of_decide_eq_false e2
    exact decide_eq_false (by omega)
theorem tups_sortable {h0 : Heap} {a : Addr} {vs : List Value} {d : Nat} {B : Int} (hd : 1 ≤ d) (h2 : 2 ≤ vs.length) (x : TS.TupsOk s.heap d B vs) (hi : ∀ v ∈ vs, TS.intsOf h0 v = TS.intsOf s.heap v) (ha : ∀ o, s.heap.get? a = some o → o.cls ≠ .type "tuple") : SortableO P w A s a vs (ltT h0 B) := by
  intro h' keep
  have x' : TS.TupsOk h' d B vs := x.keeps fun b o e c => keep b o (fun z => by subst z; exact ha o e c) e
  obtain ⟨fs, k, hl, hf⟩ := TS.firsts_of hd vs x'
  refine ⟨tuples' true, fun Q E hq => ?_, fun p q hp hq => ?_⟩
  · refine PySem.W.kat_kind (T := Value.type "int") k (by omega) (fun f hm => ?_) rfl ?_
    · obtain ⟨n, t, rfl⟩ := hf f hm
      exact PySem.W.Looks.of_pure rfl
    · rw [show (Value.type "int" != Value.type "tuple") = true from by first | decide +kernel | rfl]
      exact hq
  · obtain ⟨ns, tp, lp, bp⟩ := x _ hp
    obtain ⟨ms, tq, lq, bq⟩ := x _ hq
    have kk : ∀ b o, s.heap.get? b = some o → o.cls = .type "tuple" → h'.get? b = some o := fun b o e c => keep b o (fun z => by subst z; exact ha o e c) e
    have e1 : TS.intsOf h0 p.1 = ns := by rw [hi _ hp]; exact tp.ints
    have e2 : TS.intsOf h0 q.1 = ms := by rw [hi _ hq]; exact tq.ints
    have tp' := tp.keeps kk
    have tq' := tq.keeps kk
    show wpAny (model P w) A (keyLt' (tuples' true) p.1 q.1) (fun r s' => s' = { s with heap := h' } ∧ r = ltT h0 B p.1 q.1) (fun _ _ => False) { s with heap := h' }
    unfold ltT
    rw [e1, e2]
    obtain ⟨a1, xs, q1, ⟨o, ho, hc, n, hdt⟩, i⟩ := tp'
    obtain ⟨a2, ys, q2, ⟨o', ho', hc', n', hdt'⟩, i'⟩ := tq'
    rw [q1, q2]
    refine PySem.W.kat_lt (s := { s with heap := h' }) ho hdt ho' hdt' ?_
    have sz : decide (xs.size < ys.size) = false := by
      have l1 := i.length
      have l2 := i'.length
      rw [Array.length_toList] at l1 l2
      exact decide_eq_false (by omega)
    rw [sz]
    exact TS.lex_ints 0 i i' (by omega) bp bq ⟨rfl, rfl⟩
end
def rSortTR (K : PySem.W.Frag) : List V → List V → Hp → VK → Prop := fun vs zs H Q => ∃ (a : Addr) (xs : List V) (d : Nat) (B : Int), vs = [V.ref a] ∧ zs = [.bl true] ∧ 1 ≤ d ∧ SqL K H a xs ∧ (∀ x ∈ xs, ∃ ns, TupI K H x ns ∧ ns.length = d ∧ TS.Bd B ns) ∧
  ∀ (ys : List V) (p : Addr), ys.Perm xs → ys.Pairwise (fun x y => ∀ n m, TupI K H x n → TupI K H y m → TS.code B m ≤ TS.code B n) → H p = none → Q (.ref p) (upd H p (.lst ys))
theorem cr_sortTR {X : Cx} : CallRK X (.builtin "sorted") [Str.ofString "reverse"] (rSortTR X.K) := by
  intro pins s σ H vs zs us ws Q I r rz h
  obtain ⟨a, xs, d, B, rfl, rfl, hd, hs, hx, q⟩ := h
  rw [Vals.ref1 r]
  obtain ⟨w1, rfl, e1⟩ := vals1 rz
  obtain rfl : w1 = Value.bool true := e1
  obtain ⟨its, rv, hl, hz⟩ := I.list hs
  obtain ⟨e1, e2⟩ := bkV_refs rv fun x m => by
    obtain ⟨ns, ⟨t, e, _⟩, _⟩ := hx x m
    exact ⟨t, e⟩
  have tups : TS.TupsOk s.heap d B its := fun v hv => by
    obtain ⟨t, rfl⟩ := e2 v hv
    have hm : V.ref t ∈ xs := by rw [e1]; exact List.mem_map.mpr ⟨_, hv, rfl⟩
    obtain ⟨ns, ⟨t', e, ht⟩, hn, hb⟩ := hx _ hm
    cases e
    exact ⟨ns, tupI_raw I ht, hn, hb⟩
  show wpAny (model X.prog X.w) X.A (call (.builtin "sorted") [.ref a] [(Str.ofString "reverse", .bool true)]) _ _ _
  refine SrtR.sorted_ordK (b := true) (ltv := ltT s.heap B) (fun _ => rfl) (PyProof.Rows.args_sorted_rev _ _) (fun _ => PyProof.Rows.args_list_sort_rev _ _) (swo_T s.heap B) hl.isList (by rw [← rv.length]; exact hz) (fun h2 h1 a' ha' kk => ?_) fun out o1 o2 => ?_
  · have keep : ∀ b o, s.heap.get? b = some o → o.cls = .type "tuple" → h1.get? b = some o := fun b o e _ => (kk b o e).2
    refine tups_sortable (s := { s with heap := h1 }) hd h2 (tups.keeps keep) (fun v hv => ?_) fun o e => ?_
    · obtain ⟨ns, tp, _⟩ := tups v hv
      rw [tp.ints, (tp.keeps keep).ints]
    · have e' : some o = some (seqObj "list" its.toArray 0) := e.symm.trans ha'
      cases e'
      intro c
      exact absurd (Value.type.inj c) (by decide)
  · obtain ⟨ep, he'⟩ := PyProof.Rows.sortedAll_at s.heap its out.toArray.reverse
    have pm : out.Perm its := o2.perm.trans (List.reverse_perm _)
    have h3 : ∀ u ∈ out.reverse, ∃ a, u = Value.ref a := fun u hu => e2 u (pm.mem_iff.mp (List.mem_reverse.mp hu))
    have hp : (out.reverse.map bkV).Perm xs := by
      rw [e1]
      exact ((List.reverse_perm out).trans pm).map bkV
    have hlen : (out.reverse.map bkV).length ≤ sizeLine := by
      rw [hp.length_eq]
      exact hz
    have ea : out.reverse.toArray = out.toArray.reverse := by
      apply Array.ext'
      rw [Array.toList_reverse]
    refine ⟨.ref _, upd H (s.heap.objs.size + 1) (.lst (out.reverse.map bkV)), I.laid (t' := s.toks) (fun _ _ => PyProof.Rows.sortedAll_old) (Nat.le_succ _) ⟨hlen, out.reverse, ep, bkV_vals h3, by rw [ea]; exact he'⟩, rfl, q _ _ hp ?_ (I.hok.fresh (Nat.le_succ _))⟩
    rw [List.pairwise_map, List.pairwise_reverse]
    refine o1.imp fun {u v} huv n m hn hm => ?_
    obtain ⟨t, et, ht⟩ := hn
    obtain ⟨t', et', ht'⟩ := hm
    have i1 : TS.intsOf s.heap v = n := by
      rw [bkV_ref et]
      exact (tupI_raw I ht).ints
    have i2 : TS.intsOf s.heap u = m := by
      rw [bkV_ref et']
      exact (tupI_raw I ht').ints
    have z := of_decide_eq_false huv
    rw [i1, i2] at z
    omega
end OC

/-! Linear algebra over Fin p, vectors as functions: spans, plain forms, their uniqueness. Core Lean alone. -/
namespace Lin
set_option linter.all false
section
variable {p : Nat} [NeZero p]
abbrev Vec (p : Nat) := Nat → Fin p
def zeroV : Vec p := fun _ => 0
def addV (x y : Vec p) : Vec p := fun i => x i + y i
def mulV (c : Fin p) (x : Vec p) : Vec p := fun i => c * x i
/-- closed under sums and multiples -/
structure Sub (S : Vec p → Prop) : Prop where
  zero : S zeroV
  add : ∀ {x y}, S x → S y → S (addV x y)
  mul : ∀ (c : Fin p) {x}, S x → S (mulV c x)
def lin : List (Fin p) → List (Vec p) → Vec p
  | f :: fs, v :: vs => addV (mulV f v) (lin fs vs)
  | _, _ => zeroV
def Spn (vs : List (Vec p)) (x : Vec p) : Prop := ∃ fs : List (Fin p), x = lin fs vs
theorem zero_add (x : Vec p) : addV zeroV x = x := by
  funext i
  show (0 : Fin p) + x i = x i
  grind
theorem lin_nil (vs : List (Vec p)) : lin [] vs = zeroV := by cases vs <;> rfl
theorem lin_nil' (fs : List (Fin p)) : lin fs ([] : List (Vec p)) = zeroV := by cases fs <;> rfl
def addF : List (Fin p) → List (Fin p) → List (Fin p)
  | f :: fs, g :: gs => (f + g) :: addF fs gs
  | [], gs => gs
  | fs, [] => fs
theorem lin_add : ∀ (vs : List (Vec p)) (fs gs : List (Fin p)), addV (lin fs vs) (lin gs vs) = lin (addF fs gs) vs
  | [], fs, gs => by
    rw [lin_nil', lin_nil', lin_nil', zero_add]
  | v :: vs, [], gs => by
    rw [lin_nil, zero_add]
    simp only [addF]
  | v :: vs, f :: fs, [] => by
    rw [lin_nil]
    simp only [addF]
    funext i
    show lin (f :: fs) (v :: vs) i + (0 : Fin p) = lin (f :: fs) (v :: vs) i
    grind
  | v :: vs, f :: fs, g :: gs => by
    have ih := lin_add vs fs gs
    simp only [addF, lin]
    rw [← ih]
    funext i
    show f * v i + lin fs vs i + (g * v i + lin gs vs i) = (f + g) * v i + (lin fs vs i + lin gs vs i)
    grind
theorem lin_mul (c : Fin p) : ∀ (vs : List (Vec p)) (fs : List (Fin p)), mulV c (lin fs vs) = lin (fs.map (c * ·)) vs
  | [], fs => by
    rw [lin_nil', lin_nil']
    funext i
    show c * (0 : Fin p) = 0
    grind
  | v :: vs, [] => by
    rw [List.map_nil, lin_nil]
    funext i
    show c * (0 : Fin p) = 0
    grind
  | v :: vs, f :: fs => by
    have ih := lin_mul c vs fs
    rw [List.map_cons]
    simp only [lin]
    rw [← ih]
    funext i
    show c * (f * v i + lin fs vs i) = c * f * v i + c * lin fs vs i
    grind
theorem spn_sub (vs : List (Vec p)) : Sub (Spn vs) where
  zero := ⟨[], (lin_nil vs).symm⟩
  add := by
    rintro x y ⟨fs, rfl⟩ ⟨gs, rfl⟩
    exact ⟨_, lin_add vs fs gs⟩
  mul := by
    rintro c x ⟨fs, rfl⟩
    exact ⟨_, lin_mul c vs fs⟩
theorem spn_tail {v : Vec p} {vs : List (Vec p)} {x : Vec p} (h : Spn vs x) : Spn (v :: vs) x := by
  obtain ⟨fs, rfl⟩ := h
  refine ⟨0 :: fs, ?_⟩
  funext i
  show lin fs vs i = 0 * v i + lin fs vs i
  grind
theorem spn_mem : ∀ {vs : List (Vec p)} {v : Vec p}, v ∈ vs → Spn vs v
  | w :: vs, v, h => by
    rcases List.mem_cons.mp h with rfl | h
    · refine ⟨[1], ?_⟩
      funext i
      show v i = 1 * v i + lin [] vs i
      rw [lin_nil]
      show v i = 1 * v i + (0 : Fin p)
      grind
    · exact spn_tail (spn_mem h)
theorem spn_le {S : Vec p → Prop} (hS : Sub S) : ∀ {vs : List (Vec p)}, (∀ v ∈ vs, S v) → ∀ {x}, Spn vs x → S x
  | [], _, x, ⟨fs, e⟩ => by
    rw [e, lin_nil']
    exact hS.zero
  | v :: vs, h, x, ⟨[], e⟩ => by
    rw [e, lin_nil]
    exact hS.zero
  | v :: vs, h, x, ⟨f :: fs, e⟩ => by
    rw [e]
    exact hS.add (hS.mul f (h v List.mem_cons_self)) (spn_le hS (fun w hw => h w (List.mem_cons_of_mem _ hw)) ⟨fs, rfl⟩)
theorem spn_sub_of {vs ws : List (Vec p)} (h : ∀ v ∈ vs, Spn ws v) {x : Vec p} (hx : Spn vs x) : Spn ws x := spn_le (spn_sub ws) h hx
theorem Sub.less {S : Vec p → Prop} (hS : Sub S) {x y : Vec p} (c : Fin p) (hx : S x) (hy : S y) : S (fun i => x i - c * y i) := by
  have h := hS.add hx (hS.mul (-c) hy)
  have e : addV x (mulV (-c) y) = fun i => x i - c * y i := by
    funext i
    show x i + -c * y i = x i - c * y i
    grind
  rw [e] at h
  exact h
/-! ### plain forms: pairs of a first place and a row -/
structure PF (n : Nat) (bs : List (Nat × Vec p)) : Prop where
  inc : bs.Pairwise (fun a b => a.1 < b.1)
  lt : ∀ b ∈ bs, b.1 < n
  one : ∀ b ∈ bs, b.2 b.1 = 1
  low : ∀ b ∈ bs, ∀ i, i < b.1 → b.2 i = 0
  off : ∀ b ∈ bs, ∀ c ∈ bs, b.1 ≠ c.1 → b.2 c.1 = 0
  wid : ∀ b ∈ bs, ∀ i, n ≤ i → b.2 i = 0
/-- the part of x that the rows tell by its rests at their first places -/
def red : List (Nat × Vec p) → Vec p → Vec p
  | [], _ => zeroV
  | b :: bs, x => addV (mulV (x b.1) b.2) (red bs x)
theorem red_add : ∀ (bs : List (Nat × Vec p)) (x y : Vec p), red bs (addV x y) = addV (red bs x) (red bs y)
  | [], x, y => by simp only [red]; rw [zero_add]
  | b :: bs, x, y => by
    simp only [red]
    rw [red_add bs x y]
    funext i
    show (x b.1 + y b.1) * b.2 i + (red bs x i + red bs y i) = x b.1 * b.2 i + red bs x i + (y b.1 * b.2 i + red bs y i)
    grind
theorem red_mul (c : Fin p) : ∀ (bs : List (Nat × Vec p)) (x : Vec p), red bs (mulV c x) = mulV c (red bs x)
  | [], x => by
    simp only [red]
    funext i
    show (0 : Fin p) = c * 0
    grind
  | b :: bs, x => by
    simp only [red]
    rw [red_mul c bs x]
    funext i
    show c * x b.1 * b.2 i + c * red bs x i = c * (x b.1 * b.2 i + red bs x i)
    grind
theorem red_zero (bs : List (Nat × Vec p)) : red bs zeroV = zeroV := by
  have h := red_mul (0 : Fin p) bs zeroV
  have e : mulV (0 : Fin p) (zeroV : Vec p) = zeroV := by
    funext i
    show (0 : Fin p) * 0 = 0
    grind
  rw [e] at h
  rw [h]
  funext i
  show (0 : Fin p) * red bs zeroV i = 0
  grind
theorem red_none : ∀ (l : List (Nat × Vec p)) (x : Vec p), (∀ b ∈ l, x b.1 = 0) → red l x = zeroV
  | [], _, _ => rfl
  | b :: l, x, h => by
    simp only [red]
    rw [red_none l x fun c hc => h c (List.mem_cons_of_mem _ hc), h b List.mem_cons_self]
    funext i
    show (0 : Fin p) * b.2 i + 0 = 0
    grind
theorem red_one : ∀ (l : List (Nat × Vec p)) (b : Nat × Vec p), b ∈ l → l.Pairwise (fun a c => a.1 < c.1) → b.2 b.1 = 1 → (∀ c ∈ l, b.1 ≠ c.1 → b.2 c.1 = 0) → red l b.2 = b.2
  | a :: l, b, hb, inc, h1, h0 => by
    have inc' := List.pairwise_cons.mp inc
    simp only [red]
    rcases List.mem_cons.mp hb with rfl | hb
    · rw [red_none l b.2 fun c hc => h0 c (List.mem_cons_of_mem _ hc) (Nat.ne_of_lt (inc'.1 c hc)), h1]
      funext i
      show (1 : Fin p) * b.2 i + 0 = b.2 i
      grind
    · rw [red_one l b hb inc'.2 h1 fun c hc => h0 c (List.mem_cons_of_mem _ hc), h0 a List.mem_cons_self (Nat.ne_of_gt (inc'.1 b hb))]
      funext i
      show (0 : Fin p) * a.2 i + b.2 i = b.2 i
      grind
/-- a row of the room is told by its rests at the first places -/
theorem PF.told {n : Nat} {bs : List (Nat × Vec p)} (h : PF n bs) {x : Vec p} (hx : Spn (bs.map (·.2)) x) : red bs x = x := by
  have hS : Sub (fun x : Vec p => red bs x = x) := by
    refine ⟨red_zero bs, fun {x y} hx hy => ?_, fun c {x} hx => ?_⟩
    · show red bs (addV x y) = addV x y
      rw [red_add, hx, hy]
    · show red bs (mulV c x) = mulV c x
      rw [red_mul, hx]
  refine spn_le hS (fun v hv => ?_) hx
  obtain ⟨b, hb, rfl⟩ := List.mem_map.mp hv
  exact red_one bs b hb h.inc (h.one b hb) fun c hc ne => h.off b hb c hc ne
theorem spn_red : ∀ (bs : List (Nat × Vec p)) (x : Vec p), Spn (bs.map (·.2)) (red bs x)
  | [], x => (spn_sub _).zero
  | b :: bs, x => (spn_sub _).add ((spn_sub _).mul _ (spn_mem (by simp))) (spn_tail (spn_red bs x))
/-- a first place of a row -/
def Lead (x : Vec p) (j : Nat) : Prop := x j ≠ 0 ∧ ∀ i, i < j → x i = 0
theorem red_low : ∀ (l : List (Nat × Vec p)) (x : Vec p) (j : Nat), (∀ i, i < j → x i = 0) → (∀ b ∈ l, b.1 ≠ j) → (∀ b ∈ l, ∀ i, i < b.1 → b.2 i = 0) → red l x j = 0
  | [], _, _, _, _, _ => rfl
  | b :: l, x, j, hx, hn, hl => by
    have ih := red_low l x j hx (fun c hc => hn c (List.mem_cons_of_mem _ hc)) fun c hc => hl c (List.mem_cons_of_mem _ hc)
    show x b.1 * b.2 j + red l x j = 0
    rw [ih]
    rcases Nat.lt_or_ge b.1 j with h | h
    · rw [hx b.1 h]
      grind
    · have h2 : j < b.1 := Nat.lt_of_le_of_ne h (Ne.symm (hn b List.mem_cons_self))
      rw [hl b List.mem_cons_self j h2]
      grind
theorem PF.lead {n : Nat} {bs : List (Nat × Vec p)} (h : PF n bs) {x : Vec p} {j : Nat} (hx : Spn (bs.map (·.2)) x) (hj : Lead x j) : ∃ b ∈ bs, b.1 = j := by
  apply Classical.byContradiction
  intro hn
  have e := h.told hx
  apply hj.1
  rw [← e]
  exact red_low bs x j hj.2 (fun b hb e => hn ⟨b, hb, e⟩) h.low
theorem PF.leads {n : Nat} {bs : List (Nat × Vec p)} (h : PF n bs) (h1 : (1 : Fin p) ≠ 0) {b : Nat × Vec p} (hb : b ∈ bs) : Lead b.2 b.1 := ⟨by rw [h.one b hb]; exact h1, h.low b hb⟩
theorem sorted_eq : ∀ {l m : List Nat}, l.Pairwise (· < ·) → m.Pairwise (· < ·) → (∀ x, x ∈ l ↔ x ∈ m) → l = m
  | [], [], _, _, _ => rfl
  | [], b :: m, _, _, h => by simpa using (h b).mpr List.mem_cons_self
  | a :: l, [], _, _, h => by simpa using (h a).mp List.mem_cons_self
  | a :: l, b :: m, hl, hm, h => by
    have hl' := List.pairwise_cons.mp hl
    have hm' := List.pairwise_cons.mp hm
    have e : a = b := by
      rcases List.mem_cons.mp ((h a).mp List.mem_cons_self) with e | e
      · exact e
      · rcases List.mem_cons.mp ((h b).mpr List.mem_cons_self) with e2 | e2
        · exact e2.symm
        · have := hm'.1 a e
          have := hl'.1 b e2
          omega
    subst e
    congr 1
    refine sorted_eq hl'.2 hm'.2 fun x => ⟨fun hx => ?_, fun hx => ?_⟩
    · rcases List.mem_cons.mp ((h x).mp (List.mem_cons_of_mem _ hx)) with e | e
      · have := hl'.1 x hx
        omega
      · exact e
    · rcases List.mem_cons.mp ((h x).mpr (List.mem_cons_of_mem _ hx)) with e | e
      · have := hm'.1 x hx
        omega
      · exact e
theorem pairs_eq : ∀ {bs cs : List (Nat × Vec p)}, bs.map (·.1) = cs.map (·.1) → (∀ b ∈ bs, ∀ c ∈ cs, b.1 = c.1 → b.2 = c.2) → bs = cs
  | [], [], _, _ => rfl
  | [], _ :: _, e, _ => by cases e
  | _ :: _, [], e, _ => by cases e
  | b :: bs, c :: cs, e, h => by
    rw [List.map_cons, List.map_cons] at e
    have e1 : b.1 = c.1 := (List.cons.inj e).1
    have e2 := h b List.mem_cons_self c List.mem_cons_self e1
    have e3 : b = c := by
      cases b
      cases c
      simp only at e1 e2
      rw [e1, e2]
    rw [e3, pairs_eq (List.cons.inj e).2 fun x hx y hy => h x (List.mem_cons_of_mem _ hx) y (List.mem_cons_of_mem _ hy)]
/-- each room has just one plain form -/
theorem PF.uniq {n m : Nat} {bs cs : List (Nat × Vec p)} (h1 : (1 : Fin p) ≠ 0) (hb : PF n bs) (hc : PF m cs) (h : ∀ x, Spn (bs.map (·.2)) x ↔ Spn (cs.map (·.2)) x) : bs = cs := by
  have inB : ∀ b ∈ bs, ∃ c ∈ cs, c.1 = b.1 := fun b m => hc.lead ((h _).mp (spn_mem (List.mem_map_of_mem m))) (hb.leads h1 m)
  have inC : ∀ c ∈ cs, ∃ b ∈ bs, b.1 = c.1 := fun c m => hb.lead ((h _).mpr (spn_mem (List.mem_map_of_mem m))) (hc.leads h1 m)
  have ef : bs.map (·.1) = cs.map (·.1) := by
    refine sorted_eq ?_ ?_ fun x => ⟨fun hx => ?_, fun hx => ?_⟩
    · exact List.pairwise_map.mpr hb.inc
    · exact List.pairwise_map.mpr hc.inc
    · obtain ⟨b, m, rfl⟩ := List.mem_map.mp hx
      obtain ⟨c, m', e⟩ := inB b m
      exact List.mem_map.mpr ⟨c, m', e⟩
    · obtain ⟨c, m, rfl⟩ := List.mem_map.mp hx
      obtain ⟨b, m', e⟩ := inC c m
      exact List.mem_map.mpr ⟨b, m', e⟩
  refine pairs_eq ef fun b mb c mc e => ?_
  have hx : Spn (cs.map (·.2)) b.2 := (h _).mp (spn_mem (List.mem_map_of_mem mb))
  have t := hc.told hx
  rw [← t]
  -- b's rests at the first places of cs are those of c
  have key : ∀ l : List (Nat × Vec p), (∀ d ∈ l, b.2 d.1 = c.2 d.1) → red l b.2 = red l c.2 := by
    intro l
    induction l with
    | nil => intro _; rfl
    | cons d l ih =>
      intro hd
      simp only [red]
      rw [hd d List.mem_cons_self, ih fun x hx => hd x (List.mem_cons_of_mem _ hx)]
  rw [key cs fun d md => ?_]
  · exact red_one cs c mc hc.inc (hc.one c mc) fun d md ne => hc.off c mc d md ne
  · by_cases ne : b.1 = d.1
    · rw [← ne, hb.one b mb, e, hc.one c mc]
    · obtain ⟨b', mb', e'⟩ := inC d md
      rw [← e', hb.off b mb b' mb' (by rw [e']; exact ne), e', hc.off c mc d md (by rw [← e]; exact ne)]
theorem red_at : ∀ (l : List (Nat × Vec p)) (x : Vec p) (c : Nat × Vec p), c ∈ l → l.Pairwise (fun a b => a.1 < b.1) → c.2 c.1 = 1 → (∀ b ∈ l, b.1 ≠ c.1 → b.2 c.1 = 0) → red l x c.1 = x c.1
  | a :: l, x, c, hc, inc, h1, h0 => by
    have inc' := List.pairwise_cons.mp inc
    show x a.1 * a.2 c.1 + red l x c.1 = x c.1
    rcases List.mem_cons.mp hc with rfl | hc
    · have z : ∀ m : List (Nat × Vec p), (∀ b ∈ m, b.2 c.1 = 0) → red m x c.1 = 0 := by
        intro m
        induction m with
        | nil => intro _; rfl
        | cons b m ih =>
          intro hm
          show x b.1 * b.2 c.1 + red m x c.1 = 0
          rw [hm b List.mem_cons_self, ih fun y hy => hm y (List.mem_cons_of_mem _ hy)]
          grind
      rw [z l fun b hb => h0 b (List.mem_cons_of_mem _ hb) (Nat.ne_of_gt (inc'.1 b hb)), h1]
      grind
    · rw [red_at l x c hc inc'.2 h1 fun b hb => h0 b (List.mem_cons_of_mem _ hb), h0 a List.mem_cons_self (Nat.ne_of_lt (inc'.1 c hc))]
      grind
theorem PF.at {n : Nat} {bs : List (Nat × Vec p)} (h : PF n bs) (x : Vec p) {c : Nat × Vec p} (hc : c ∈ bs) : red bs x c.1 = x c.1 :=
  red_at bs x c hc h.inc (h.one c hc) fun b hb ne => h.off b hb c hc ne
theorem sorted_len : ∀ {l m : List Nat}, l.Pairwise (· < ·) → m.Pairwise (· < ·) → (∀ x ∈ l, x ∈ m) → l.length ≤ m.length ∧ (m.length ≤ l.length → ∀ x ∈ m, x ∈ l)
  | [], m, _, _, _ => ⟨Nat.zero_le _, fun h x hx => by
      cases m with
      | nil => exact hx
      | cons a b => simp at h⟩
  | a :: l, [], _, _, h => by simpa using h a List.mem_cons_self
  | a :: l, b :: m, hl, hm, h => by
    have hl' := List.pairwise_cons.mp hl
    have hm' := List.pairwise_cons.mp hm
    by_cases e : a = b
    · subst e
      have ih := sorted_len hl'.2 hm'.2 fun x hx => by
        rcases List.mem_cons.mp (h x (List.mem_cons_of_mem _ hx)) with e | e
        · have := hl'.1 x hx
          omega
        · exact e
      refine ⟨by simpa using ih.1, fun hle x hx => ?_⟩
      rcases List.mem_cons.mp hx with rfl | hx
      · exact List.mem_cons_self
      · exact List.mem_cons_of_mem _ (ih.2 (by simpa using hle) x hx)
    · have ha : a ∈ m := by
        rcases List.mem_cons.mp (h a List.mem_cons_self) with z | z
        · exact absurd z e
        · exact z
      have ih := sorted_len (l := a :: l) hl hm'.2 fun x hx => by
        rcases List.mem_cons.mp (h x hx) with z | z
        · rcases List.mem_cons.mp hx with y | y
          · omega
          · have := hl'.1 x y
            have := hm'.1 a ha
            omega
        · exact z
      refine ⟨Nat.le_succ_of_le ih.1, fun hle => ?_⟩
      have := ih.1
      simp only [List.length_cons] at this hle
      omega
theorem PF.firsts_sub {n m : Nat} {bs cs : List (Nat × Vec p)} (hb : PF n bs) (hc : PF m cs) (h1 : (1 : Fin p) ≠ 0) (h : ∀ x, Spn (bs.map (·.2)) x → Spn (cs.map (·.2)) x) : ∀ j ∈ bs.map (·.1), j ∈ cs.map (·.1) := by
  intro j hj
  obtain ⟨b, mb, rfl⟩ := List.mem_map.mp hj
  obtain ⟨c, mc, e⟩ := hc.lead (h _ (spn_mem (List.mem_map_of_mem mb))) (hb.leads h1 mb)
  exact List.mem_map.mpr ⟨c, mc, e⟩
theorem PF.len_le {n m : Nat} {bs cs : List (Nat × Vec p)} (hb : PF n bs) (hc : PF m cs) (h1 : (1 : Fin p) ≠ 0) (h : ∀ x, Spn (bs.map (·.2)) x → Spn (cs.map (·.2)) x) : bs.length ≤ cs.length := by
  have := (sorted_len (List.pairwise_map.mpr hb.inc) (List.pairwise_map.mpr hc.inc) (hb.firsts_sub hc h1 h)).1
  rw [List.length_map, List.length_map] at this
  exact this
/-- one room within another, with as many first places: the same -/
theorem PF.same_of_len {n m : Nat} {bs cs : List (Nat × Vec p)} (hb : PF n bs) (hc : PF m cs) (h1 : (1 : Fin p) ≠ 0) (h : ∀ x, Spn (bs.map (·.2)) x → Spn (cs.map (·.2)) x) (hl : cs.length ≤ bs.length) {x : Vec p} (hx : Spn (cs.map (·.2)) x) : Spn (bs.map (·.2)) x := by
  have back := (sorted_len (List.pairwise_map.mpr hb.inc) (List.pairwise_map.mpr hc.inc) (hb.firsts_sub hc h1 h)).2 (by rw [List.length_map, List.length_map]; exact hl)
  have hy : Spn (cs.map (·.2)) (fun i => x i - 1 * red bs x i) := (spn_sub _).less 1 hx (h _ (spn_red bs x))
  have t := hc.told hy
  have z : red cs (fun i => x i - 1 * red bs x i) = zeroV := red_none cs _ fun c mc => by
    obtain ⟨b, mb, e⟩ := List.mem_map.mp (back c.1 (List.mem_map_of_mem mc))
    have := hb.at x mb
    show x c.1 - 1 * red bs x c.1 = 0
    rw [← e, this]
    grind
  rw [z] at t
  have e : x = red bs x := by
    funext i
    have := congrFun t i
    have this : (0 : Fin p) = x i - 1 * red bs x i := this
    grind
  rw [e]
  exact spn_red bs x
/-! ### taking off, place by place -/
variable (inv : Fin p → Fin p)
def lessV (x own : Vec p) (j : Nat) : Vec p := fun i => x i - x j * own i
def ownV (a : Vec p) (j : Nat) : Vec p := mulV (inv (a j)) a
def stepV (st : List (Vec p) × List (Nat × Vec p)) (k : Nat) : List (Vec p) × List (Nat × Vec p) :=
  match st.1.filter (fun x => decide (x k ≠ 0)) with
  | [] => st
  | a :: _ => (st.1.map fun x => lessV x (ownV inv a k) k, (st.2.map fun b => (b.1, lessV b.2 (ownV inv a k) k)) ++ [(k, ownV inv a k)])
def plainV (n : Nat) (vs : List (Vec p)) : List (Nat × Vec p) := ((List.range n).foldl (stepV inv) (vs, [])).2
structure StepOk (n k : Nat) (vs : List (Vec p)) (st : List (Vec p) × List (Nat × Vec p)) : Prop where
  low : ∀ x ∈ st.1, ∀ i, i < k → x i = 0
  wid : ∀ x ∈ st.1, ∀ i, n ≤ i → x i = 0
  pf : PF n st.2
  below : ∀ b ∈ st.2, b.1 < k
  to : ∀ x, Spn (st.1 ++ st.2.map (·.2)) x → Spn vs x
  from_ : ∀ x, Spn vs x → Spn (st.1 ++ st.2.map (·.2)) x
theorem filter_head {α : Type} {q : α → Bool} {l : List α} {a : α} {r : List α} (h : l.filter q = a :: r) : a ∈ l ∧ q a = true := by
  have : a ∈ l.filter q := by rw [h]; exact List.mem_cons_self
  exact List.mem_filter.mp this
theorem step_ok {n k : Nat} {vs : List (Vec p)} {st : List (Vec p) × List (Nat × Vec p)} (hinv : ∀ a : Fin p, a ≠ 0 → inv a * a = 1) (hk : k < n) (h : StepOk n k vs st) : StepOk n (k + 1) vs (stepV inv st k) := by
  unfold stepV
  split
  · rename_i hf
    refine ⟨fun x hx i hi => ?_, h.wid, h.pf, fun b hb => Nat.lt_succ_of_lt (h.below b hb), h.to, h.from_⟩
    by_cases e : i = k
    · subst e
      apply Classical.byContradiction
      intro hne
      have : x ∈ st.1.filter (fun x => decide (x i ≠ 0)) := List.mem_filter.mpr ⟨hx, decide_eq_true hne⟩
      rw [hf] at this
      cases this
    · exact h.low x hx i (by omega)
  · rename_i a r hf
    obtain ⟨ha, hq⟩ := filter_head hf
    have hak : a k ≠ 0 := of_decide_eq_true hq
    have ok1 : ownV inv a k k = 1 := hinv _ hak
    have okl : ∀ i, i < k → ownV inv a k i = 0 := fun i hi => by
      show inv (a k) * a i = 0
      rw [h.low a ha i hi]
      grind
    have okw : ∀ i, n ≤ i → ownV inv a k i = 0 := fun i hi => by
      show inv (a k) * a i = 0
      rw [h.wid a ha i hi]
      grind
    have less_k : ∀ x : Vec p, lessV x (ownV inv a k) k k = 0 := fun x => by
      show x k - x k * ownV inv a k k = 0
      rw [ok1]
      grind
    have less_lt : ∀ (x : Vec p) i, i < k → lessV x (ownV inv a k) k i = x i := fun x i hi => by
      show x i - x k * ownV inv a k i = x i
      rw [okl i hi]
      grind
    have less_w : ∀ (x : Vec p) i, n ≤ i → x i = 0 → lessV x (ownV inv a k) k i = 0 := fun x i hi hx => by
      show x i - x k * ownV inv a k i = 0
      rw [okw i hi, hx]
      grind
    have own_in : Spn (st.1 ++ st.2.map (·.2)) (ownV inv a k) := (spn_sub _).mul _ (spn_mem (List.mem_append_left _ ha))
    generalize ownV inv a k = own at *
    refine ⟨?_, ?_, ⟨?_, ?_, ?_, ?_, ?_, ?_⟩, ?_, ?_, ?_⟩
    · intro x hx i hi
      obtain ⟨y, my, rfl⟩ := List.mem_map.mp hx
      by_cases e : i = k
      · subst e
        exact less_k y
      · rw [less_lt y i (by omega)]
        exact h.low y my i (by omega)
    · intro x hx i hi
      obtain ⟨y, my, rfl⟩ := List.mem_map.mp hx
      exact less_w y i hi (h.wid y my i hi)
    · refine List.pairwise_append.mpr ⟨?_, List.pairwise_singleton _ _, fun b hb c hc => ?_⟩
      · exact List.pairwise_map.mpr h.pf.inc
      · obtain ⟨b', mb, rfl⟩ := List.mem_map.mp hb
        have : c = (k, own) := by simpa using hc
        subst this
        exact h.below b' mb
    · intro b hb
      rcases List.mem_append.mp hb with hb | hb
      · obtain ⟨b', mb, rfl⟩ := List.mem_map.mp hb
        exact h.pf.lt b' mb
      · have : b = (k, own) := by simpa using hb
        subst this
        exact hk
    · intro b hb
      rcases List.mem_append.mp hb with hb | hb
      · obtain ⟨b', mb, rfl⟩ := List.mem_map.mp hb
        show lessV b'.2 own k b'.1 = 1
        rw [less_lt _ _ (h.below b' mb)]
        exact h.pf.one b' mb
      · have : b = (k, own) := by simpa using hb
        subst this
        exact ok1
    · intro b hb i hi
      rcases List.mem_append.mp hb with hb | hb
      · obtain ⟨b', mb, rfl⟩ := List.mem_map.mp hb
        have hi : i < b'.1 := hi
        show lessV b'.2 own k i = 0
        rw [less_lt _ _ (Nat.lt_trans hi (h.below b' mb))]
        exact h.pf.low b' mb i hi
      · have : b = (k, own) := by simpa using hb
        subst this
        exact okl i hi
    · intro b hb c hc ne
      rcases List.mem_append.mp hb with hb | hb
      · obtain ⟨b', mb, rfl⟩ := List.mem_map.mp hb
        rcases List.mem_append.mp hc with hc | hc
        · obtain ⟨c', mc, rfl⟩ := List.mem_map.mp hc
          show lessV b'.2 own k c'.1 = 0
          rw [less_lt _ _ (h.below c' mc)]
          exact h.pf.off b' mb c' mc ne
        · have : c = (k, own) := by simpa using hc
          subst this
          exact less_k b'.2
      · have : b = (k, own) := by simpa using hb
        subst this
        rcases List.mem_append.mp hc with hc | hc
        · obtain ⟨c', mc, rfl⟩ := List.mem_map.mp hc
          exact okl c'.1 (h.below c' mc)
        · have : c = (k, own) := by simpa using hc
          subst this
          exact absurd rfl ne
    · intro b hb i hi
      rcases List.mem_append.mp hb with hb | hb
      · obtain ⟨b', mb, rfl⟩ := List.mem_map.mp hb
        exact less_w b'.2 i hi (h.pf.wid b' mb i hi)
      · have : b = (k, own) := by simpa using hb
        subst this
        exact okw i hi
    · intro b hb
      rcases List.mem_append.mp hb with hb | hb
      · obtain ⟨b', mb, rfl⟩ := List.mem_map.mp hb
        exact Nat.lt_succ_of_lt (h.below b' mb)
      · have : b = (k, own) := by simpa using hb
        subst this
        exact Nat.lt_succ_self k
    · intro x hx
      refine h.to x (spn_sub_of (fun v hv => ?_) hx)
      rcases List.mem_append.mp hv with hv | hv
      · obtain ⟨y, my, rfl⟩ := List.mem_map.mp hv
        exact (spn_sub _).less (y k) (spn_mem (List.mem_append_left _ my)) own_in
      · obtain ⟨b, mb, rfl⟩ := List.mem_map.mp hv
        rcases List.mem_append.mp mb with mb | mb
        · obtain ⟨b', mb', rfl⟩ := List.mem_map.mp mb
          exact (spn_sub _).less (b'.2 k) (spn_mem (List.mem_append_right _ (List.mem_map_of_mem mb'))) own_in
        · have : b = (k, own) := by simpa using mb
          subst this
          exact own_in
    · intro x hx
      have own_in' : Spn (st.1.map (fun x => lessV x own k) ++ ((st.2.map fun b => (b.1, lessV b.2 own k)) ++ [(k, own)]).map (·.2)) own := spn_mem (by simp)
      have back : ∀ y : Vec p, Spn (st.1.map (fun x => lessV x own k) ++ ((st.2.map fun b => (b.1, lessV b.2 own k)) ++ [(k, own)]).map (·.2)) (lessV y own k) → Spn (st.1.map (fun x => lessV x own k) ++ ((st.2.map fun b => (b.1, lessV b.2 own k)) ++ [(k, own)]).map (·.2)) y := by
        intro y hy
        have := (spn_sub _).add hy ((spn_sub _).mul (y k) own_in')
        have e : addV (lessV y own k) (mulV (y k) own) = y := by
          funext i
          show y i - y k * own i + y k * own i = y i
          grind
        rw [e] at this
        exact this
      refine spn_sub_of (fun v hv => ?_) (h.from_ x hx)
      rcases List.mem_append.mp hv with hv | hv
      · exact back v (spn_mem (List.mem_append_left _ (List.mem_map_of_mem hv)))
      · obtain ⟨b, mb, rfl⟩ := List.mem_map.mp hv
        refine back b.2 (spn_mem (List.mem_append_right _ ?_))
        refine List.mem_map.mpr ⟨(b.1, lessV b.2 own k), List.mem_append_left _ (List.mem_map.mpr ⟨b, mb, rfl⟩), rfl⟩
theorem steps_ok {n : Nat} {vs : List (Vec p)} (hinv : ∀ a : Fin p, a ≠ 0 → inv a * a = 1) (hw : ∀ x ∈ vs, ∀ i, n ≤ i → x i = 0) : ∀ k, k ≤ n → StepOk n k vs ((List.range k).foldl (stepV inv) (vs, []))
  | 0, _ => by
    refine ⟨fun x _ i hi => absurd hi (Nat.not_lt_zero i), hw, ⟨.nil, fun b h => (nomatch h), fun b h => (nomatch h), fun b h => (nomatch h), fun b h => (nomatch h), fun b h => (nomatch h)⟩, fun b h => (nomatch h), fun x hx => ?_, fun x hx => ?_⟩
    · simpa using hx
    · simpa using hx
  | k + 1, hk => by
    rw [List.range_succ, List.foldl_append]
    exact step_ok inv hinv (by omega) (steps_ok hinv hw k (by omega))
/-- taking off, place by place, tells the plain form of what the rows make -/
theorem plainV_pf {n : Nat} {vs : List (Vec p)} (hinv : ∀ a : Fin p, a ≠ 0 → inv a * a = 1) (hw : ∀ x ∈ vs, ∀ i, n ≤ i → x i = 0) : PF n (plainV inv n vs) := (steps_ok inv hinv hw n (Nat.le_refl n)).pf
theorem plainV_spn {n : Nat} {vs : List (Vec p)} (hinv : ∀ a : Fin p, a ≠ 0 → inv a * a = 1) (hw : ∀ x ∈ vs, ∀ i, n ≤ i → x i = 0) (x : Vec p) : Spn ((plainV inv n vs).map (·.2)) x ↔ Spn vs x := by
  have h := steps_ok inv hinv hw n (Nat.le_refl n)
  constructor
  · intro hx
    refine h.to x (spn_sub_of (fun v hv => spn_mem (List.mem_append_right _ hv)) hx)
  · intro hx
    refine spn_sub_of (fun v hv => ?_) (h.from_ x hx)
    rcases List.mem_append.mp hv with hv | hv
    · have e : v = zeroV := by
        funext i
        rcases Nat.lt_or_ge i n with hi | hi
        · exact h.low v hv i hi
        · exact h.wid v hv i hi
      rw [e]
      exact (spn_sub _).zero
    · exact spn_mem hv
/-- a plain form of the same room is what taking off tells -/
theorem plainV_uniq {n : Nat} {vs : List (Vec p)} {bs : List (Nat × Vec p)} (h1 : (1 : Fin p) ≠ 0) (hinv : ∀ a : Fin p, a ≠ 0 → inv a * a = 1) (hw : ∀ x ∈ vs, ∀ i, n ≤ i → x i = 0) (hb : PF n bs) (h : ∀ x, Spn (bs.map (·.2)) x ↔ Spn vs x) : bs = plainV inv n vs :=
  hb.uniq h1 (plainV_pf inv hinv hw) fun x => (h x).trans (plainV_spn inv hinv hw x).symm
theorem spn_append {vs ws : List (Vec p)} {S : Vec p → Prop} (hS : Sub S) (h1 : ∀ x, Spn vs x → S x) (h2 : ∀ x, Spn ws x → S x) (x : Vec p) (hx : Spn (vs ++ ws) x) : S x :=
  spn_le hS (fun v hv => (List.mem_append.mp hv).elim (fun h => h1 v (spn_mem h)) fun h => h2 v (spn_mem h)) hx
theorem spn_left {vs ws : List (Vec p)} {x : Vec p} (h : Spn vs x) : Spn (vs ++ ws) x := spn_sub_of (fun v hv => spn_mem (List.mem_append_left _ hv)) h
theorem spn_right {vs ws : List (Vec p)} {x : Vec p} (h : Spn ws x) : Spn (vs ++ ws) x := spn_sub_of (fun v hv => spn_mem (List.mem_append_right _ hv)) h
/-- a row more: as many rows as before just where it is made by them -/
theorem plainV_has {n : Nat} {vs : List (Vec p)} {v : Vec p} (h1 : (1 : Fin p) ≠ 0) (hinv : ∀ a : Fin p, a ≠ 0 → inv a * a = 1) (hw : ∀ x ∈ vs, ∀ i, n ≤ i → x i = 0) (hv : ∀ i, n ≤ i → v i = 0) :
    (plainV inv n (vs ++ [v])).length = (plainV inv n vs).length ↔ Spn vs v := by
  have hw' : ∀ x ∈ vs ++ [v], ∀ i, n ≤ i → x i = 0 := fun x hx => by
    rcases List.mem_append.mp hx with h | h
    · exact hw x h
    · have : x = v := by simpa using h
      rw [this]
      exact hv
  have A := plainV_pf inv hinv hw
  have B := plainV_pf inv hinv hw'
  have sa := plainV_spn inv hinv hw
  have sb := plainV_spn inv hinv hw'
  constructor
  · intro e
    have := A.same_of_len B h1 (fun x hx => (sb x).mpr (spn_left ((sa x).mp hx))) (Nat.le_of_eq e) ((sb v).mpr (spn_right (spn_mem (by simp))))
    exact (sa v).mp this
  · intro hs
    have same : ∀ x, Spn (vs ++ [v]) x ↔ Spn vs x := fun x => ⟨fun hx => spn_append (spn_sub vs) (fun _ h => h) (fun y hy => spn_sub_of (fun z hz => by
      have : z = v := by simpa using hz
      rw [this]
      exact hs) hy) x hx, spn_left⟩
    rw [B.uniq h1 A fun x => (sb x).trans ((same x).trans (sa x).symm)]
theorem plainV_len_le {n : Nat} {vs ws : List (Vec p)} (h1 : (1 : Fin p) ≠ 0) (hinv : ∀ a : Fin p, a ≠ 0 → inv a * a = 1) (hv : ∀ x ∈ vs, ∀ i, n ≤ i → x i = 0) (hw : ∀ x ∈ ws, ∀ i, n ≤ i → x i = 0) (h : ∀ x, Spn vs x → Spn ws x) : (plainV inv n vs).length ≤ (plainV inv n ws).length :=
  (plainV_pf inv hinv hv).len_le (plainV_pf inv hinv hw) h1 fun x hx => (plainV_spn inv hinv hw x).mpr (h x ((plainV_spn inv hinv hv x).mp hx))
end
end Lin

/-! rows of ints mod p as vectors; the law's own taking off -/
namespace OC
set_option linter.all false
open Lin
def ctr (p a : Int) : Int := (((List.range p.toNat).map fun (b : Nat) => (b : Int)).filter fun b => decide (a * b % p = 1)).headD 0
def lessR (p : Int) (x y : List Int) (j : Nat) : List Int := List.zipWith (fun r m => (r - x.getD j 0 * m) % p) x y
def ownR (p : Int) (a : List Int) (j : Nat) : List Int := a.map fun r => ctr p (a.getD j 0) * r % p
def stepR (p : Int) (st : List (List Int) × List (List Int)) (k : Nat) : List (List Int) × List (List Int) :=
  match st.1.filter (fun r => decide (r.getD k 0 ≠ 0)) with
  | [] => st
  | a :: _ => (st.1.map fun r => lessR p r (ownR p a k) k, (st.2.map fun r => lessR p r (ownR p a k) k) ++ [ownR p a k])
def plainR (p : Int) (n : Nat) (rows : List (List Int)) : List (List Int) := ((List.range n).foldl (stepR p) (rows, [])).2
/-- each rest but 0 has a contrary one -/
def Fld (p : Int) : Prop := 2 ≤ p ∧ ∀ a : Int, 1 ≤ a → a < p → ∃ b : Int, 1 ≤ b ∧ b < p ∧ a * b % p = 1
theorem ctr_ok {p a : Int} (h : Fld p) (h0 : 1 ≤ a) (h1 : a < p) : 0 ≤ ctr p a ∧ ctr p a < p ∧ a * ctr p a % p = 1 := by
  obtain ⟨b, b1, b2, b3⟩ := h.2 a h0 h1
  unfold ctr
  generalize hl : ((List.range p.toNat).map fun (b : Nat) => (b : Int)).filter (fun b => decide (a * b % p = 1)) = l
  have mem : ∀ x ∈ l, 0 ≤ x ∧ x < p ∧ a * x % p = 1 := by
    intro x hx
    rw [← hl] at hx
    obtain ⟨hx, hq⟩ := List.mem_filter.mp hx
    obtain ⟨i, hi, rfl⟩ := List.mem_map.mp hx
    have := List.mem_range.mp hi
    exact ⟨by omega, by omega, of_decide_eq_true hq⟩
  cases l with
  | nil =>
    have : b ∈ ((List.range p.toNat).map fun (b : Nat) => (b : Int)).filter (fun b => decide (a * b % p = 1)) := List.mem_filter.mpr ⟨List.mem_map.mpr ⟨b.toNat, List.mem_range.mpr (by omega), by omega⟩, decide_eq_true b3⟩
    rw [hl] at this
    cases this
  | cons x r => exact mem x List.mem_cons_self
theorem gd_lt {r : List Int} {i : Nat} (h : i < r.length) : r.getD i 0 = r[i] := by
  rw [List.getD_eq_getElem?_getD, List.getElem?_eq_getElem h]
  rfl
theorem gd_ge {r : List Int} {i : Nat} (h : r.length ≤ i) : r.getD i 0 = 0 := by
  rw [List.getD_eq_getElem?_getD, List.getElem?_eq_none h]
  rfl
section
variable {q : Nat} [NeZero q]
theorem q_pos : (0 : Int) < q := by
  have := Nat.pos_of_ne_zero (NeZero.ne q)
  omega
def cF (x : Int) : Fin q := ⟨(x % q).toNat, by
  have h1 := Int.emod_lt_of_pos x (q_pos (q := q))
  have h2 := Int.emod_nonneg x (show (q : Int) ≠ 0 by have := q_pos (q := q); omega)
  omega⟩
theorem cF_val (x : Int) : ((cF (q := q) x).val : Int) = x % q := by
  show (((x % q).toNat : Nat) : Int) = x % q
  exact Int.toNat_of_nonneg (Int.emod_nonneg x (by have := q_pos (q := q); omega))
theorem fin_ext_int {a b : Fin q} (h : (a.val : Int) = (b.val : Int)) : a = b := Fin.ext (by omega)
theorem cF_add (x y : Int) : cF (q := q) (x + y) = cF x + cF y := by
  apply fin_ext_int
  rw [cF_val, Fin.val_add, Int.natCast_emod, Int.natCast_add, cF_val, cF_val, ← Int.add_emod]
theorem cF_mul (x y : Int) : cF (q := q) (x * y) = cF x * cF y := by
  apply fin_ext_int
  rw [cF_val, Fin.val_mul, Int.natCast_emod, Int.natCast_mul, cF_val, cF_val, ← Int.mul_emod]
theorem cF_mod (x : Int) : cF (q := q) (x % q) = cF x := by
  apply fin_ext_int
  rw [cF_val, cF_val, Int.emod_emod]
theorem cF_zero : cF (q := q) 0 = 0 := by
  have h := cF_add (q := q) 0 0
  rw [Int.add_zero] at h
  grind
theorem cF_sub (x y : Int) : cF (q := q) (x - y) = cF x - cF y := by
  have h := cF_add (q := q) (x - y) y
  rw [Int.sub_add_cancel] at h
  grind
theorem cF_inj {x y : Int} (hx : 0 ≤ x ∧ x < q) (hy : 0 ≤ y ∧ y < q) (h : cF (q := q) x = cF y) : x = y := by
  have h1 := congrArg (fun a : Fin q => (a.val : Int)) h
  simp only [cF_val] at h1
  rw [Int.emod_eq_of_lt hx.1 hx.2, Int.emod_eq_of_lt hy.1 hy.2] at h1
  exact h1
theorem cF_ne {x : Int} (hx : 0 ≤ x ∧ x < q) : cF (q := q) x ≠ 0 ↔ x ≠ 0 := by
  constructor
  · intro h e
    rw [e] at h
    exact h cF_zero
  · intro h e
    rw [← cF_zero] at e
    exact h (cF_inj hx ⟨by omega, by omega⟩ e)
theorem cF_one (h : 2 ≤ q) : cF (q := q) 1 = 1 := by
  apply fin_ext_int
  rw [cF_val, Int.emod_eq_of_lt (by omega) (by omega)]
  have : (1 : Fin q).val = 1 % q := rfl
  rw [this, Nat.mod_eq_of_lt (by omega)]
  rfl
theorem one_ne (h : 2 ≤ q) : (1 : Fin q) ≠ 0 := by
  rw [← cF_one h]
  exact (cF_ne ⟨by omega, by omega⟩).mpr (by omega)
/-- a row as a vector -/
def toV (r : List Int) : Vec q := fun i => cF (r.getD i 0)
def RowsOk (p : Int) (n : Nat) (rows : List (List Int)) : Prop := ∀ r ∈ rows, r.length = n ∧ ∀ x ∈ r, 0 ≤ x ∧ x < p
def invF (f : Fin q) : Fin q := cF (ctr q (f.val : Int))
theorem invF_ok (h : Fld (q : Int)) : ∀ a : Fin q, a ≠ 0 → invF a * a = 1 := by
  intro a ha
  have hv : 1 ≤ (a.val : Int) := by
    have : a.val ≠ 0 := fun e => ha (Fin.ext (by rw [e]; rfl))
    omega
  obtain ⟨_, _, h3⟩ := ctr_ok h hv (by have := a.isLt; omega)
  have e : a = cF (q := q) (a.val : Int) := by
    apply fin_ext_int
    rw [cF_val, Int.emod_eq_of_lt (by omega) (by have := a.isLt; omega)]
  have h2 : (2 : Int) ≤ q := h.1
  show cF (ctr q (a.val : Int)) * a = 1
  rw [show cF (q := q) (ctr q (a.val : Int)) * a = cF (ctr q (a.val : Int)) * cF (a.val : Int) by rw [← e], ← cF_mul, ← cF_mod, Int.mul_comm, h3, cF_one (by omega)]
theorem getD_lt {r : List Int} {p : Int} (hp : 0 < p) (h : ∀ x ∈ r, 0 ≤ x ∧ x < p) (i : Nat) : 0 ≤ r.getD i 0 ∧ r.getD i 0 < p := by
  by_cases hi : i < r.length
  · rw [gd_lt hi]
    exact h _ (List.getElem_mem hi)
  · rw [gd_ge (by omega)]
    omega
theorem toV_wid {r : List Int} {n : Nat} (h : r.length = n) (i : Nat) (hi : n ≤ i) : toV (q := q) r i = 0 := by
  show cF (r.getD i 0) = 0
  rw [gd_ge (by omega), cF_zero]
theorem toV_inj {x y : List Int} (hl : x.length = y.length) (hx : ∀ v ∈ x, 0 ≤ v ∧ v < (q : Int)) (hy : ∀ v ∈ y, 0 ≤ v ∧ v < (q : Int)) (h : toV (q := q) x = toV y) : x = y := by
  apply List.ext_getElem hl
  intro i h1 h2
  have e := congrFun h i
  have e : cF (q := q) (x.getD i 0) = cF (y.getD i 0) := e
  rw [gd_lt h1, gd_lt h2] at e
  exact cF_inj (hx _ (List.getElem_mem h1)) (hy _ (List.getElem_mem h2)) e
theorem getD_zipWith (f : Int → Int → Int) {x y : List Int} (h : x.length = y.length) {i : Nat} (hi : i < x.length) : (List.zipWith f x y).getD i 0 = f (x.getD i 0) (y.getD i 0) := by
  rw [gd_lt (by rw [List.length_zipWith]; omega), List.getElem_zipWith, gd_lt hi, gd_lt (by omega)]
theorem toV_less {x y : List Int} (h : x.length = y.length) (j : Nat) : toV (q := q) (lessR q x y j) = lessV (toV x) (toV y) j := by
  funext i
  show cF ((lessR q x y j).getD i 0) = cF (x.getD i 0) - cF (x.getD j 0) * cF (y.getD i 0)
  by_cases hi : i < x.length
  · unfold lessR
    rw [getD_zipWith _ h hi, cF_mod, cF_sub, cF_mul]
  · rw [gd_ge (by unfold lessR; rw [List.length_zipWith]; omega), gd_ge (r := x) (by omega), gd_ge (r := y) (by omega), cF_zero]
    grind
theorem toV_own {a : List Int} (ha : ∀ v ∈ a, 0 ≤ v ∧ v < (q : Int)) (j : Nat) : toV (q := q) (ownR q a j) = ownV invF (toV a) j := by
  funext i
  have hj := getD_lt q_pos ha j
  have ev : ((cF (q := q) (a.getD j 0)).val : Int) = a.getD j 0 := by rw [cF_val, Int.emod_eq_of_lt hj.1 hj.2]
  show cF ((ownR q a j).getD i 0) = cF (ctr q ((cF (q := q) (a.getD j 0)).val : Int)) * cF (a.getD i 0)
  rw [ev]
  by_cases hi : i < a.length
  · unfold ownR
    rw [gd_lt (by rw [List.length_map]; exact hi), List.getElem_map, cF_mod, cF_mul, gd_lt (r := a) hi]
  · rw [gd_ge (by unfold ownR; rw [List.length_map]; omega), gd_ge (r := a) (i := i) (by omega), cF_zero]
    grind
theorem less_row {p : Int} (hp : 0 < p) {x y : List Int} {n : Nat} (hx : x.length = n) (hy : y.length = n) (j : Nat) : (lessR p x y j).length = n ∧ ∀ v ∈ lessR p x y j, 0 ≤ v ∧ v < p := by
  refine ⟨by unfold lessR; rw [List.length_zipWith]; omega, fun v hv => ?_⟩
  unfold lessR at hv
  rw [List.mem_iff_getElem?] at hv
  obtain ⟨i, hi⟩ := hv
  rw [List.getElem?_zipWith] at hi
  split at hi
  · cases Option.some.inj hi
    exact ⟨Int.emod_nonneg _ (by omega), Int.emod_lt_of_pos _ hp⟩
  · cases hi
theorem own_row {p : Int} (hp : 0 < p) {a : List Int} {n : Nat} (ha : a.length = n) (j : Nat) : (ownR p a j).length = n ∧ ∀ v ∈ ownR p a j, 0 ≤ v ∧ v < p := by
  refine ⟨by unfold ownR; rw [List.length_map]; exact ha, fun v hv => ?_⟩
  unfold ownR at hv
  obtain ⟨r, _, rfl⟩ := List.mem_map.mp hv
  exact ⟨Int.emod_nonneg _ (by omega), Int.emod_lt_of_pos _ hp⟩
theorem step_rows {p : Int} (hp : 0 < p) {n : Nat} {st : List (List Int) × List (List Int)} (h1 : RowsOk p n st.1) (h2 : RowsOk p n st.2) (k : Nat) : RowsOk p n (stepR p st k).1 ∧ RowsOk p n (stepR p st k).2 ∧ (stepR p st k).1.length = st.1.length ∧ (stepR p st k).2.length ≤ st.2.length + 1 := by
  unfold stepR
  split
  · exact ⟨h1, h2, rfl, by omega⟩
  · rename_i a r hf
    obtain ⟨ha, _⟩ := filter_head hf
    have ho := own_row hp (h1 a ha).1 k
    refine ⟨fun x hx => ?_, fun x hx => ?_, by rw [List.length_map], by rw [List.length_append, List.length_map]; simp⟩
    · obtain ⟨y, my, rfl⟩ := List.mem_map.mp hx
      exact less_row hp (h1 y my).1 ho.1 k
    · rcases List.mem_append.mp hx with hx | hx
      · obtain ⟨y, my, rfl⟩ := List.mem_map.mp hx
        exact less_row hp (h2 y my).1 ho.1 k
      · have : x = ownR p a k := by simpa using hx
        rw [this]
        exact ho
/-- the steps of both sides -/
theorem step_sim {n : Nat} {st : List (List Int) × List (List Int)} {sv : List (Vec q) × List (Nat × Vec q)} (h1 : RowsOk q n st.1) (h2 : RowsOk q n st.2) (e1 : st.1.map (toV (q := q)) = sv.1) (e2 : st.2.map (toV (q := q)) = sv.2.map (·.2)) (k : Nat) :
    (stepR q st k).1.map (toV (q := q)) = (stepV invF sv k).1 ∧ (stepR q st k).2.map (toV (q := q)) = (stepV invF sv k).2.map (·.2) := by
  have hf : sv.1.filter (fun x => decide (x k ≠ 0)) = (st.1.filter (fun r => decide (r.getD k 0 ≠ 0))).map (toV (q := q)) := by
    rw [← e1, List.filter_map]
    congr 1
    apply List.filter_congr
    intro r hr
    have := cF_ne (q := q) (getD_lt q_pos (h1 r hr).2 k)
    show decide (cF (q := q) (r.getD k 0) ≠ 0) = decide (r.getD k 0 ≠ 0)
    simp only [this]
  unfold stepR stepV
  rw [hf]
  cases hl : st.1.filter (fun r => decide (r.getD k 0 ≠ 0)) with
  | nil => exact ⟨e1, e2⟩
  | cons a r =>
    obtain ⟨ha, _⟩ := filter_head hl
    have ho := own_row (q_pos (q := q)) (h1 a ha).1 k
    have eo : toV (q := q) (ownR q a k) = ownV invF (toV a) k := toV_own (h1 a ha).2 k
    simp only [List.map_cons]
    constructor
    · rw [← e1, List.map_map, List.map_map]
      apply List.map_congr_left
      intro x hx
      show toV (lessR q x (ownR q a k) k) = lessV (toV x) (ownV invF (toV a) k) k
      rw [toV_less (by rw [(h1 x hx).1, ho.1]), eo]
    · rw [List.map_append, List.map_append, List.map_map, List.map_map, List.map_cons, List.map_cons, List.map_nil, List.map_nil, eo]
      congr 1
      have e3 : sv.2.map ((fun b : Nat × Vec q => b.2) ∘ fun b => (b.1, lessV b.2 (ownV invF (toV a) k) k)) = (sv.2.map (·.2)).map fun v => lessV v (ownV invF (toV a) k) k := by
        rw [List.map_map]
        rfl
      rw [e3, ← e2, List.map_map]
      apply List.map_congr_left
      intro x hx
      show toV (lessR q x (ownR q a k) k) = lessV (toV x) (ownV invF (toV a) k) k
      rw [toV_less (by rw [(h2 x hx).1, ho.1]), eo]
theorem steps_sim {n : Nat} {rows : List (List Int)} (h : RowsOk q n rows) : ∀ k, RowsOk q n ((List.range k).foldl (stepR q) (rows, [])).1 ∧ RowsOk q n ((List.range k).foldl (stepR q) (rows, [])).2 ∧
    ((List.range k).foldl (stepR q) (rows, [])).1.map (toV (q := q)) = ((List.range k).foldl (stepV invF) (rows.map (toV (q := q)), [])).1 ∧ ((List.range k).foldl (stepR q) (rows, [])).2.map (toV (q := q)) = ((List.range k).foldl (stepV invF) (rows.map (toV (q := q)), [])).2.map (·.2)
  | 0 => ⟨h, fun r hr => (nomatch hr), rfl, rfl⟩
  | k + 1 => by
    obtain ⟨a, b, c, d⟩ := steps_sim h k
    rw [List.range_succ, List.foldl_append, List.foldl_append]
    obtain ⟨e1, e2, _, _⟩ := step_rows q_pos a b k
    obtain ⟨f1, f2⟩ := step_sim a b c d k
    exact ⟨e1, e2, f1, f2⟩
theorem plainR_rows {n : Nat} {rows : List (List Int)} (h : RowsOk q n rows) : RowsOk q n (plainR q n rows) := (steps_sim h n).2.1
theorem plainR_eq {n : Nat} {rows : List (List Int)} (h : RowsOk q n rows) : (plainR q n rows).map (toV (q := q)) = (plainV invF n (rows.map (toV (q := q)))).map (·.2) := (steps_sim h n).2.2.2
theorem rows_wid {n : Nat} {rows : List (List Int)} (h : RowsOk q n rows) : ∀ x ∈ rows.map (toV (q := q)), ∀ i, n ≤ i → x i = 0 := by
  intro x hx i hi
  obtain ⟨r, mr, rfl⟩ := List.mem_map.mp hx
  exact toV_wid (h r mr).1 i hi
/-- what rows make -/
def Mk (q : Nat) [NeZero q] (rows : List (List Int)) (x : Vec q) : Prop := Spn (rows.map (toV (q := q))) x
/-- a plain form -/
def IsPF (q : Nat) [NeZero q] (n : Nat) (room : List (List Int)) : Prop := RowsOk q n room ∧ ∃ bs : List (Nat × Vec q), PF n bs ∧ bs.map (·.2) = room.map (toV (q := q))
theorem plainR_pf (hF : Fld (q : Int)) {n : Nat} {rows : List (List Int)} (h : RowsOk q n rows) : IsPF q n (plainR q n rows) := ⟨plainR_rows h, _, plainV_pf invF (invF_ok hF) (rows_wid h), (plainR_eq h).symm⟩
theorem plainR_mk (hF : Fld (q : Int)) {n : Nat} {rows : List (List Int)} (h : RowsOk q n rows) (x : Vec q) : Mk q (plainR q n rows) x ↔ Mk q rows x := by
  unfold Mk
  rw [plainR_eq h]
  exact plainV_spn invF (invF_ok hF) (rows_wid h) x
theorem map_inj {n : Nat} : ∀ {xs ys : List (List Int)}, RowsOk q n xs → RowsOk q n ys → xs.map (toV (q := q)) = ys.map (toV (q := q)) → xs = ys
  | [], [], _, _, _ => rfl
  | [], _ :: _, _, _, e => by cases e
  | _ :: _, [], _, _, e => by cases e
  | x :: xs, y :: ys, hx, hy, e => by
    rw [List.map_cons, List.map_cons] at e
    have h1 := hx x List.mem_cons_self
    have h2 := hy y List.mem_cons_self
    have e1 : x = y := toV_inj (by rw [h1.1, h2.1]) h1.2 h2.2 (List.cons.inj e).1
    rw [e1, map_inj (fun r hr => hx r (List.mem_cons_of_mem _ hr)) (fun r hr => hy r (List.mem_cons_of_mem _ hr)) (List.cons.inj e).2]
/-- each room has just one plain form -/
theorem IsPF.uniq (hF : Fld (q : Int)) {n : Nat} {one other : List (List Int)} (h1 : IsPF q n one) (h2 : IsPF q n other) (h : ∀ x, Mk q one x ↔ Mk q other x) : one = other := by
  obtain ⟨r1, bs, b1, e1⟩ := h1
  obtain ⟨r2, cs, c1, e2⟩ := h2
  have h2' : (2 : Int) ≤ q := hF.1
  have e := b1.uniq (one_ne (by omega)) c1 fun x => by
    rw [e1, e2]
    exact h x
  exact map_inj r1 r2 (by rw [← e1, ← e2, e])
theorem IsPF.plain (hF : Fld (q : Int)) {n : Nat} {room rows : List (List Int)} (h1 : IsPF q n room) (h : RowsOk q n rows) (hm : ∀ x, Mk q room x ↔ Mk q rows x) : room = plainR q n rows :=
  h1.uniq hF (plainR_pf hF h) fun x => (hm x).trans (plainR_mk hF h x).symm
theorem plainR_len {n : Nat} {rows : List (List Int)} (h : RowsOk q n rows) : (plainR q n rows).length = (plainV invF n (rows.map (toV (q := q)))).length := by
  have := congrArg List.length (plainR_eq h)
  rw [List.length_map, List.length_map] at this
  exact this
theorem plainR_has (hF : Fld (q : Int)) {n : Nat} {rows : List (List Int)} {r : List Int} (h : RowsOk q n rows) (hr : RowsOk q n [r]) : (plainR q n (rows ++ [r])).length = (plainR q n rows).length ↔ Mk q rows (toV r) := by
  have h2 : (2 : Int) ≤ q := hF.1
  have hr' := hr r List.mem_cons_self
  have hall : RowsOk q n (rows ++ [r]) := fun x hx => by
    rcases List.mem_append.mp hx with h' | h'
    · exact h x h'
    · exact hr x h'
  rw [plainR_len h, plainR_len hall, List.map_append, List.map_cons, List.map_nil]
  exact plainV_has invF (one_ne (by omega)) (invF_ok hF) (rows_wid h) fun i hi => toV_wid hr'.1 i hi
end
end OC

/-! a row more: one first place more, or none; worlds that part -/
namespace Lin
set_option linter.all false
section
variable {p : Nat} [NeZero p]
theorem exists_lead {x : Vec p} : ∀ (j : Nat), x j ≠ 0 → ∃ k, k ≤ j ∧ Lead x k := by
  intro j
  induction j using Nat.strongRecOn with
  | _ j ih =>
    intro h
    by_cases hz : ∀ i, i < j → x i = 0
    · exact ⟨j, Nat.le_refl j, h, hz⟩
    · obtain ⟨i, hi⟩ := Classical.not_forall.mp hz
      have hi' : i < j ∧ x i ≠ 0 := Classical.not_imp.mp hi
      obtain ⟨k, hk, l⟩ := ih i hi'.1 hi'.2
      exact ⟨k, by omega, l⟩
/-- x less what the rows tell of it -/
def leftV (bs : List (Nat × Vec p)) (x : Vec p) : Vec p := fun i => x i - red bs x i
theorem left_at {n : Nat} {bs : List (Nat × Vec p)} (h : PF n bs) (x : Vec p) {c : Nat × Vec p} (hc : c ∈ bs) : leftV bs x c.1 = 0 := by
  show x c.1 - red bs x c.1 = 0
  rw [h.at x hc]
  grind
theorem left_zero {n : Nat} {bs : List (Nat × Vec p)} (h : PF n bs) (x : Vec p) : leftV bs x = zeroV ↔ Spn (bs.map (·.2)) x := by
  constructor
  · intro e
    have : x = red bs x := by
      funext i
      have h0 := congrFun e i
      have h0 : x i - red bs x i = 0 := h0
      grind
    rw [this]
    exact spn_red bs x
  · intro hx
    funext i
    show x i - red bs x i = 0
    rw [h.told hx]
    grind
/-- sums of a row of the room and of so many of v -/
theorem spn_more {vs : List (Vec p)} {v x : Vec p} (hx : Spn (vs ++ [v]) x) : ∃ s c, Spn vs s ∧ x = addV s (mulV c v) := by
  have hS : Sub (fun x : Vec p => ∃ s c, Spn vs s ∧ x = addV s (mulV c v)) := by
    refine ⟨⟨zeroV, 0, (spn_sub vs).zero, ?_⟩, ?_, ?_⟩
    · funext i
      show (0 : Fin p) = 0 + 0 * v i
      grind
    · rintro x y ⟨s, c, hs, rfl⟩ ⟨t, d, ht, rfl⟩
      refine ⟨addV s t, c + d, (spn_sub vs).add hs ht, ?_⟩
      funext i
      show s i + c * v i + (t i + d * v i) = s i + t i + (c + d) * v i
      grind
    · rintro d x ⟨s, c, hs, rfl⟩
      refine ⟨mulV d s, d * c, (spn_sub vs).mul d hs, ?_⟩
      funext i
      show d * (s i + c * v i) = d * s i + d * c * v i
      grind
  refine spn_le hS (fun w hw => ?_) hx
  rcases List.mem_append.mp hw with h | h
  · refine ⟨w, 0, spn_mem h, ?_⟩
    funext i
    show w i = w i + 0 * v i
    grind
  · have : w = v := by simpa using h
    subst this
    refine ⟨zeroV, 1, (spn_sub vs).zero, ?_⟩
    funext i
    show w i = 0 + 1 * w i
    grind
/-- the first places of a row of the greater room -/
theorem lead_more {n : Nat} {bs : List (Nat × Vec p)} (h : PF n bs) {v : Vec p} {j k : Nat} {x : Vec p} (hj : Lead (leftV bs v) j) (hfld : ∀ a b : Fin p, a * b = 0 → a = 0 ∨ b = 0) (hx : Spn (bs.map (·.2) ++ [v]) x) (hk : Lead x k) : (∃ b ∈ bs, b.1 = k) ∨ k = j := by
  obtain ⟨s, c, hs, rfl⟩ := spn_more hx
  -- with the left of v in its place
  have e : addV s (mulV c v) = addV (addV s (mulV c (red bs v))) (mulV c (leftV bs v)) := by
    funext i
    show s i + c * v i = s i + c * red bs v i + c * (v i - red bs v i)
    grind
  have hs' : Spn (bs.map (·.2)) (addV s (mulV c (red bs v))) := (spn_sub _).add hs ((spn_sub _).mul c (spn_red bs v))
  rw [e] at hk
  generalize addV s (mulV c (red bs v)) = t at hs' hk
  by_cases hc : c = 0
  · subst hc
    have e2 : addV t (mulV 0 (leftV bs v)) = t := by
      funext i
      show t i + 0 * leftV bs v i = t i
      grind
    rw [e2] at hk
    exact .inl (h.lead hs' hk)
  · have val : ∀ i, addV t (mulV c (leftV bs v)) i = t i + c * leftV bs v i := fun _ => rfl
    rcases Nat.lt_trichotomy k j with hlt | heq | hgt
    · have lt : Lead t k := by
        refine ⟨?_, fun i hi => ?_⟩
        · have h1 := hk.1
          rw [val, hj.2 k hlt] at h1
          intro z
          apply h1
          rw [z]
          grind
        · have h1 := hk.2 i hi
          rw [val, hj.2 i (by omega)] at h1
          grind
      exact .inl (h.lead hs' lt)
    · exact .inr heq
    · have lt : Lead t j := by
        refine ⟨fun z => ?_, fun i hi => ?_⟩
        · have h1 := hk.2 j hgt
          rw [val, z] at h1
          have h2 : c * leftV bs v j = 0 := by grind
          rcases hfld _ _ h2 with h3 | h3
          · exact hc h3
          · exact hj.1 h3
        · have h1 := hk.2 i (by omega)
          rw [val, hj.2 i hi] at h1
          grind
      obtain ⟨b, mb, eb⟩ := h.lead hs' lt
      have := left_at h v mb
      rw [eb] at this
      exact absurd this hj.1
theorem sorted_more {l m : List Nat} {j : Nat} (hl : l.Pairwise (· < ·)) (hm : m.Pairwise (· < ·)) (h : ∀ x ∈ l, x ∈ m ∨ x = j) : l.length ≤ m.length + 1 := by
  have nd : l.Nodup := hl.imp fun h => Nat.ne_of_lt h
  have s := List.erase_sublist (a := j) (l := l)
  have h1 := (sorted_len (hl.sublist s) hm fun x hx => by
    rcases h x (List.mem_of_mem_erase hx) with h | h
    · exact h
    · subst h
      exact absurd hx (List.Nodup.not_mem_erase nd)).1
  have h2 := List.length_erase (a := j) (l := l)
  split at h2 <;> omega
variable (inv : Fin p → Fin p)
/-- a row more that is not made: one row more -/
theorem plainV_more {n : Nat} {vs : List (Vec p)} {v : Vec p} (h1 : (1 : Fin p) ≠ 0) (hinv : ∀ a : Fin p, a ≠ 0 → inv a * a = 1) (hw : ∀ x ∈ vs, ∀ i, n ≤ i → x i = 0) (hv : ∀ i, n ≤ i → v i = 0) (hn : ¬ Spn vs v) :
    (plainV inv n (vs ++ [v])).length = (plainV inv n vs).length + 1 := by
  have hfld : ∀ a b : Fin p, a * b = 0 → a = 0 ∨ b = 0 := fun a b e => by
    by_cases ha : a = 0
    · exact .inl ha
    · have := hinv a ha
      refine .inr ?_
      have : b = inv a * (a * b) := by grind
      rw [e] at this
      grind
  have hw' : ∀ x ∈ vs ++ [v], ∀ i, n ≤ i → x i = 0 := fun x hx => by
    rcases List.mem_append.mp hx with h | h
    · exact hw x h
    · have : x = v := by simpa using h
      rw [this]
      exact hv
  have A := plainV_pf inv hinv hw
  have B := plainV_pf inv hinv hw'
  have sa := plainV_spn inv hinv hw
  have sb := plainV_spn inv hinv hw'
  have ne : leftV (plainV inv n vs) v ≠ zeroV := fun e => hn ((sa v).mp ((left_zero A v).mp e))
  obtain ⟨j0, hj0⟩ : ∃ j, leftV (plainV inv n vs) v j ≠ 0 := by
    apply Classical.byContradiction
    intro hz
    apply ne
    funext i
    exact Classical.byContradiction fun q => hz ⟨i, q⟩
  obtain ⟨j, _, hj⟩ := exists_lead j0 hj0
  have up : (plainV inv n (vs ++ [v])).length ≤ (plainV inv n vs).length + 1 := by
    have := sorted_more (j := j) (List.pairwise_map.mpr B.inc) (List.pairwise_map.mpr A.inc) fun x hx => by
      obtain ⟨b, mb, rfl⟩ := List.mem_map.mp hx
      have hb : Spn ((plainV inv n vs).map (·.2) ++ [v]) b.2 := by
        refine spn_append (spn_sub _) (fun y hy => spn_left ((sa y).mpr hy)) (fun y hy => spn_right hy) b.2 ((sb b.2).mp (spn_mem (List.mem_map_of_mem mb)))
      rcases lead_more A hj hfld hb (B.leads h1 mb) with ⟨c, mc, e⟩ | e
      · exact .inl (List.mem_map.mpr ⟨c, mc, e⟩)
      · exact .inr e
    rw [List.length_map, List.length_map] at this
    exact this
  have low : (plainV inv n vs).length ≤ (plainV inv n (vs ++ [v])).length := plainV_len_le inv h1 hinv hw hw' fun x hx => spn_left hx
  have neq : (plainV inv n (vs ++ [v])).length ≠ (plainV inv n vs).length := fun e => hn ((plainV_has inv h1 hinv hw hv).mp e)
  omega
/-! ### worth: the sum over the places -/
def dot : Nat → Vec p → Vec p → Fin p
  | 0, _, _ => 0
  | n + 1, x, y => dot n x y + x n * y n
theorem dot_add (n : Nat) (x y w : Vec p) : dot n (addV x y) w = dot n x w + dot n y w := by
  induction n with
  | zero => simp only [dot]; grind
  | succ n ih =>
    simp only [dot]
    rw [ih]
    show dot n x w + dot n y w + (x n + y n) * w n = dot n x w + x n * w n + (dot n y w + y n * w n)
    grind
theorem dot_mul (n : Nat) (c : Fin p) (x w : Vec p) : dot n (mulV c x) w = c * dot n x w := by
  induction n with
  | zero => simp only [dot]; grind
  | succ n ih =>
    simp only [dot]
    rw [ih]
    show c * dot n x w + c * x n * w n = c * (dot n x w + x n * w n)
    grind
theorem dot_comm (n : Nat) (x y : Vec p) : dot n x y = dot n y x := by
  induction n with
  | zero => rfl
  | succ n ih =>
    simp only [dot]
    rw [ih]
    grind
theorem dot_zero (n : Nat) (w : Vec p) : dot n zeroV w = 0 := by
  induction n with
  | zero => rfl
  | succ n ih =>
    simp only [dot]
    rw [ih]
    show (0 : Fin p) + 0 * w n = 0
    grind
theorem dot_sub (n : Nat) (w : Vec p) (c : Fin p) : Sub (fun x : Vec p => dot n x w = 0) := by
  refine ⟨dot_zero n w, fun {x y} hx hy => ?_, fun c {x} hx => ?_⟩
  · show dot n (addV x y) w = 0
    rw [dot_add, hx, hy]
    grind
  · show dot n (mulV c x) w = 0
    rw [dot_mul, hx]
    grind
end
end Lin

/-! worlds that part; sizes of sums and of what two rooms share -/
namespace Lin
set_option linter.all false
section
variable {p : Nat} [NeZero p]
def unitV (j : Nat) : Vec p := fun i => if i = j then 1 else 0
theorem dot_unit (n : Nat) (x : Vec p) (j : Nat) : dot n x (unitV j) = if j < n then x j else 0 := by
  induction n with
  | zero => simp [dot]
  | succ n ih =>
    simp only [dot]
    rw [ih]
    unfold unitV
    by_cases h1 : n = j
    · subst h1
      rw [if_neg (Nat.lt_irrefl n), if_pos (Nat.lt_succ_self n)]
      simp only [if_true]
      grind
    · rw [if_neg h1]
      by_cases h2 : j < n
      · rw [if_pos h2, if_pos (by omega)]
        grind
      · rw [if_neg h2, if_neg (by omega)]
        grind
/-- the world at which a row is worth what is left of it at the place j -/
def crossV : List (Nat × Vec p) → Nat → Vec p
  | [], j => unitV j
  | b :: bs, j => addV (mulV (-(b.2 j)) (unitV b.1)) (crossV bs j)
theorem dot_cross (n : Nat) : ∀ (bs : List (Nat × Vec p)) (x : Vec p) (j : Nat), (∀ b ∈ bs, b.1 < n) → j < n → dot n x (crossV bs j) = leftV bs x j
  | [], x, j, _, hj => by
    simp only [crossV]
    rw [dot_unit, if_pos hj]
    show x j = x j - 0
    grind
  | b :: bs, x, j, hb, hj => by
    have ih := dot_cross n bs x j (fun c hc => hb c (List.mem_cons_of_mem _ hc)) hj
    simp only [crossV]
    rw [dot_comm, dot_add, dot_mul, dot_comm n (unitV b.1) x, dot_comm n (crossV bs j) x, ih, dot_unit, if_pos (hb b List.mem_cons_self)]
    show -(b.2 j) * x b.1 + (x j - red bs x j) = x j - (x b.1 * b.2 j + red bs x j)
    grind
theorem cross_wid : ∀ (bs : List (Nat × Vec p)) (n j : Nat), (∀ b ∈ bs, b.1 < n) → j < n → ∀ i, n ≤ i → crossV bs j i = 0
  | [], n, j, _, hj, i, hi => by
    show (if i = j then (1 : Fin p) else 0) = 0
    rw [if_neg (by omega)]
  | b :: bs, n, j, hb, hj, i, hi => by
    have ih := cross_wid bs n j (fun c hc => hb c (List.mem_cons_of_mem _ hc)) hj i hi
    have := hb b List.mem_cons_self
    show -(b.2 j) * (if i = b.1 then (1 : Fin p) else 0) + crossV bs j i = 0
    rw [if_neg (by omega), ih]
    grind
/-- a row that is not made is parted from the rows by a world -/
theorem PF.part {n : Nat} {bs : List (Nat × Vec p)} (h : PF n bs) {v : Vec p} (hv : ∀ i, n ≤ i → v i = 0) (hn : ¬ Spn (bs.map (·.2)) v) : ∃ j, j < n ∧ dot n v (crossV bs j) ≠ 0 ∧ ∀ x, Spn (bs.map (·.2)) x → dot n x (crossV bs j) = 0 := by
  obtain ⟨j, hj⟩ : ∃ j, leftV bs v j ≠ 0 := by
    apply Classical.byContradiction
    intro hz
    apply hn
    refine (left_zero h v).mp ?_
    funext i
    exact Classical.byContradiction fun q => hz ⟨i, q⟩
  have hjn : j < n := by
    apply Classical.byContradiction
    intro hge
    apply hj
    have hr : ∀ l : List (Nat × Vec p), (∀ b ∈ l, b.2 j = 0) → red l v j = 0 := by
      intro l
      induction l with
      | nil => intro _; rfl
      | cons b l ih =>
        intro hb
        show v b.1 * b.2 j + red l v j = 0
        rw [hb b List.mem_cons_self, ih fun c hc => hb c (List.mem_cons_of_mem _ hc)]
        grind
    show v j - red bs v j = 0
    rw [hv j (by omega), hr bs fun b hb => h.wid b hb j (by omega)]
    grind
  refine ⟨j, hjn, ?_, fun x hx => ?_⟩
  · rw [dot_cross n bs v j h.lt hjn]
    exact hj
  · rw [dot_cross n bs x j h.lt hjn, (left_zero h x).mpr hx]
    rfl
/-! ### sizes -/
variable (inv : Fin p → Fin p)
/-- what a list of rows needs: the size of their room -/
def dim (n : Nat) (vs : List (Vec p)) : Nat := (plainV inv n vs).length
structure Good (n : Nat) : Prop where
  one : (1 : Fin p) ≠ 0
  inv : ∀ a : Fin p, a ≠ 0 → inv a * a = 1
def Wid (n : Nat) (vs : List (Vec p)) : Prop := ∀ x ∈ vs, ∀ i, n ≤ i → x i = 0
theorem Wid.app {n : Nat} {vs ws : List (Vec p)} (h1 : Wid n vs) (h2 : Wid n ws) : Wid n (vs ++ ws) := fun x hx => (List.mem_append.mp hx).elim (h1 x) (h2 x)
theorem Wid.one {n : Nat} {v : Vec p} (h : ∀ i, n ≤ i → v i = 0) : Wid n [v] := fun x hx => by
  have : x = v := by simpa using hx
  rw [this]
  exact h
variable {inv}
theorem Good.same {n : Nat} (g : Good inv n) {vs ws : List (Vec p)} (hv : Wid n vs) (hw : Wid n ws) (h : ∀ x, Spn vs x ↔ Spn ws x) : dim inv n vs = dim inv n ws :=
  Nat.le_antisymm (plainV_len_le inv g.one g.inv hv hw fun x hx => (h x).mp hx) (plainV_len_le inv g.one g.inv hw hv fun x hx => (h x).mpr hx)
theorem Good.le {n : Nat} (g : Good inv n) {vs ws : List (Vec p)} (hv : Wid n vs) (hw : Wid n ws) (h : ∀ x, Spn vs x → Spn ws x) : dim inv n vs ≤ dim inv n ws := plainV_len_le inv g.one g.inv hv hw h
theorem Good.in_ {n : Nat} (g : Good inv n) {vs : List (Vec p)} {v : Vec p} (hv : Wid n vs) (hw : ∀ i, n ≤ i → v i = 0) (h : Spn vs v) : dim inv n (vs ++ [v]) = dim inv n vs := (plainV_has inv g.one g.inv hv hw).mpr h
theorem Good.out {n : Nat} (g : Good inv n) {vs : List (Vec p)} {v : Vec p} (hv : Wid n vs) (hw : ∀ i, n ≤ i → v i = 0) (h : ¬ Spn vs v) : dim inv n (vs ++ [v]) = dim inv n vs + 1 := plainV_more inv g.one g.inv hv hw h
theorem dim_nil (n : Nat) : dim inv n ([] : List (Vec p)) = 0 := by
  have h : ∀ k, (List.range k).foldl (stepV inv) (([] : List (Vec p)), []) = ([], []) := by
    intro k
    induction k with
    | zero => rfl
    | succ k ih =>
      rw [List.range_succ, List.foldl_append, ih]
      rfl
  unfold dim plainV
  rw [h n]
  rfl
theorem spn_app {vs ws : List (Vec p)} {x : Vec p} : Spn (vs ++ ws) x ↔ ∃ s t, Spn vs s ∧ Spn ws t ∧ x = addV s t := by
  constructor
  · intro hx
    have hS : Sub (fun x : Vec p => ∃ s t, Spn vs s ∧ Spn ws t ∧ x = addV s t) := by
      refine ⟨⟨zeroV, zeroV, (spn_sub vs).zero, (spn_sub ws).zero, (zero_add _).symm⟩, ?_, ?_⟩
      · rintro x y ⟨s, t, hs, ht, rfl⟩ ⟨s', t', hs', ht', rfl⟩
        refine ⟨addV s s', addV t t', (spn_sub vs).add hs hs', (spn_sub ws).add ht ht', ?_⟩
        funext i
        show s i + t i + (s' i + t' i) = s i + s' i + (t i + t' i)
        grind
      · rintro c x ⟨s, t, hs, ht, rfl⟩
        refine ⟨mulV c s, mulV c t, (spn_sub vs).mul c hs, (spn_sub ws).mul c ht, ?_⟩
        funext i
        show c * (s i + t i) = c * s i + c * t i
        grind
    refine spn_le hS (fun w hw => ?_) hx
    rcases List.mem_append.mp hw with h | h
    · refine ⟨w, zeroV, spn_mem h, (spn_sub ws).zero, ?_⟩
      funext i
      show w i = w i + 0
      grind
    · exact ⟨zeroV, w, (spn_sub vs).zero, spn_mem h, (zero_add w).symm⟩
  · rintro ⟨s, t, hs, ht, rfl⟩
    exact (spn_sub _).add (spn_left hs) (spn_right ht)
/-- what two rooms share: rows that make it, and the sizes -/
theorem Good.meet {n : Nat} (g : Good inv n) {us : List (Vec p)} (hu : Wid n us) : ∀ (m : Nat) (ws : List (Vec p)), ws.length = m → Wid n ws → ∃ ks, Wid n ks ∧ (∀ x, Spn ks x ↔ Spn us x ∧ Spn ws x) ∧ dim inv n (us ++ ws) + dim inv n ks = dim inv n us + dim inv n ws
  | 0, ws, hl, hw => by
    have e : ws = [] := List.eq_nil_of_length_eq_zero hl
    subst e
    refine ⟨[], fun x hx => (nomatch hx), fun x => ⟨fun hx => ⟨?_, hx⟩, fun hx => hx.2⟩, ?_⟩
    · obtain ⟨fs, e⟩ := hx
      rw [e, lin_nil']
      exact (spn_sub us).zero
    · rw [List.append_nil, dim_nil]
  | m + 1, ws, hl, hw => by
    obtain ⟨ws', w, rfl⟩ : ∃ ws' w, ws = ws' ++ [w] := by
      rcases List.eq_nil_or_concat ws with e | ⟨l, b, e⟩
      · rw [e] at hl
        cases hl
      · exact ⟨l, b, by rw [e, List.concat_eq_append]⟩
    have hw' : Wid n ws' := fun x hx => hw x (List.mem_append_left _ hx)
    have hww : ∀ i, n ≤ i → w i = 0 := hw w (by simp)
    obtain ⟨ks, hk, sk, dk⟩ := meet g hu m ws' (by simpa using hl) hw'
    rw [← List.append_assoc]
    by_cases h1 : Spn ws' w
    · have same : ∀ x, Spn (ws' ++ [w]) x ↔ Spn ws' x := fun x => ⟨fun hx => spn_append (spn_sub ws') (fun _ h => h) (fun y hy => spn_sub_of (fun z hz => by
        have : z = w := by simpa using hz
        rw [this]
        exact h1) hy) x hx, spn_left⟩
      refine ⟨ks, hk, fun x => (sk x).trans ⟨fun h => ⟨h.1, (same x).mpr h.2⟩, fun h => ⟨h.1, (same x).mp h.2⟩⟩, ?_⟩
      rw [g.in_ (hu.app hw') hww (spn_right h1), g.in_ hw' hww h1]
      exact dk
    · rw [g.out hw' hww h1]
      by_cases h2 : Spn (us ++ ws') w
      · rw [g.in_ (hu.app hw') hww h2]
        obtain ⟨u, v, su, sv, ew⟩ := spn_app.mp h2
        -- u = w - v is shared
        have eu : u = fun i => w i - 1 * v i := by
          funext i
          have := congrFun ew i
          have this : w i = u i + v i := this
          grind
        have uw : Spn (ws' ++ [w]) u := by
          rw [eu]
          exact (spn_sub _).less 1 (spn_right (spn_mem (by simp))) (spn_left sv)
        have nu : ¬ Spn ws' u := fun hu' => h1 (by rw [ew]; exact (spn_sub _).add hu' sv)
        have wu : ∀ i, n ≤ i → u i = 0 := fun i hi => by
          have h := hu
          have hz : Sub (fun x : Vec p => x i = 0) := ⟨rfl, fun {x y} hx hy => by show x i + y i = 0; rw [hx, hy]; grind, fun c {x} hx => by show c * x i = 0; rw [hx]; grind⟩
          exact spn_le hz (fun x hx => h x hx i hi) su
        refine ⟨ks ++ [u], hk.app (Wid.one wu), fun x => ⟨fun hx => ?_, fun hx => ?_⟩, ?_⟩
        · have s1 : Sub (fun x : Vec p => Spn us x ∧ Spn (ws' ++ [w]) x) := ⟨⟨(spn_sub _).zero, (spn_sub _).zero⟩, fun {x y} hx hy => ⟨(spn_sub _).add hx.1 hy.1, (spn_sub _).add hx.2 hy.2⟩, fun c {x} hx => ⟨(spn_sub _).mul c hx.1, (spn_sub _).mul c hx.2⟩⟩
          refine spn_le s1 (fun y hy => ?_) hx
          rcases List.mem_append.mp hy with hy | hy
          · have := (sk y).mp (spn_mem hy)
            exact ⟨this.1, spn_left this.2⟩
          · have : y = u := by simpa using hy
            rw [this]
            exact ⟨su, uw⟩
        · obtain ⟨s, c, hs, ex⟩ := spn_more hx.2
          -- x - c u is in both
          have hy : Spn us (fun i => x i - c * u i) := (spn_sub _).less c hx.1 su
          have hy2 : Spn ws' (fun i => x i - c * u i) := by
            have e : (fun i => x i - c * u i) = addV s (mulV c v) := by
              funext i
              have e1 := congrFun ex i
              have e2 := congrFun ew i
              have e1 : x i = s i + c * w i := e1
              have e2 : w i = u i + v i := e2
              show x i - c * u i = s i + c * v i
              grind
            rw [e]
            exact (spn_sub _).add hs ((spn_sub _).mul c sv)
          have hk2 := (sk _).mpr ⟨hy, hy2⟩
          have e : x = addV (fun i => x i - c * u i) (mulV c u) := by
            funext i
            show x i = x i - c * u i + c * u i
            grind
          rw [e]
          exact (spn_sub _).add (spn_left hk2) ((spn_sub _).mul c (spn_right (spn_mem (by simp))))
        · have nk : ¬ Spn ks u := fun h => nu ((sk u).mp h).2
          rw [g.out hk wu nk]
          omega
      · rw [g.out (hu.app hw') hww h2]
        refine ⟨ks, hk, fun x => (sk x).trans ⟨fun h => ⟨h.1, spn_left h.2⟩, fun h => ⟨h.1, ?_⟩⟩, by omega⟩
        obtain ⟨s, c, hs, ex⟩ := spn_more h.2
        by_cases hc : c = 0
        · subst hc
          have e : x = s := by
            rw [ex]
            funext i
            show s i + 0 * w i = s i
            grind
          rw [e]
          exact hs
        · -- w would be made of both
          exfalso
          apply h2
          have hi := g.inv c hc
          have e : w = fun i => mulV (inv c) x i - inv c * s i := by
            funext i
            have e1 := congrFun ex i
            have e1 : x i = s i + c * w i := e1
            show w i = inv c * x i - inv c * s i
            grind
          rw [e]
          exact (spn_sub _).less (inv c) ((spn_sub _).mul (inv c) (spn_left h.1)) (spn_right hs)
/-- the sizes of two rooms, of both together and of what they share -/
theorem Good.sizes {n : Nat} (g : Good inv n) {us ws ks : List (Vec p)} (hu : Wid n us) (hw : Wid n ws) (hk : Wid n ks) (h : ∀ x, Spn ks x ↔ Spn us x ∧ Spn ws x) : dim inv n (us ++ ws) + dim inv n ks = dim inv n us + dim inv n ws := by
  obtain ⟨ls, hl, sl, dl⟩ := g.meet hu _ ws rfl hw
  rw [g.same hk hl fun x => (h x).trans (sl x).symm]
  exact dl
end
end Lin

/-! across: the worlds at which all rows of a room are worth 0 -/
namespace Lin
set_option linter.all false
section
variable {p : Nat} [NeZero p] {inv : Fin p → Fin p}
theorem dot_single {n : Nat} {x y : Vec p} {k : Nat} (hk : k < n) (h : ∀ i, i < n → i ≠ k → x i * y i = 0) : dot n x y = x k * y k := by
  have go : ∀ m, m ≤ n → dot m x y = if k < m then x k * y k else 0 := by
    intro m
    induction m with
    | zero => intro _; simp [dot]
    | succ m ih =>
      intro hm
      simp only [dot]
      rw [ih (by omega)]
      by_cases e : m = k
      · subst e
        rw [if_neg (Nat.lt_irrefl m), if_pos (Nat.lt_succ_self m)]
        grind
      · rw [h m (by omega) e]
        by_cases h2 : k < m
        · rw [if_pos h2, if_pos (by omega)]
          grind
        · rw [if_neg h2, if_neg (by omega)]
          grind
  rw [go n (Nat.le_refl n), if_pos hk]
theorem cross_free : ∀ (l : List (Nat × Vec p)) (j i : Nat), (∀ b ∈ l, b.1 ≠ i) → crossV l j i = if i = j then 1 else 0
  | [], j, i, _ => rfl
  | b :: l, j, i, h => by
    have ih := cross_free l j i fun c hc => h c (List.mem_cons_of_mem _ hc)
    show -(b.2 j) * (if i = b.1 then (1 : Fin p) else 0) + crossV l j i = _
    rw [if_neg (Ne.symm (h b List.mem_cons_self)), ih]
    grind
/-- whether a place is a first place of a row -/
def isFirst (bs : List (Nat × Vec p)) (j : Nat) : Bool := decide (j ∈ bs.map (·.1))
/-- the places that are first places of no row -/
def frees (n : Nat) (bs : List (Nat × Vec p)) : List Nat := (List.range n).filter fun j => !isFirst bs j
theorem mem_frees {n : Nat} {bs : List (Nat × Vec p)} {j : Nat} : j ∈ frees n bs ↔ j < n ∧ ∀ b ∈ bs, b.1 ≠ j := by
  unfold frees isFirst
  rw [List.mem_filter, List.mem_range]
  constructor
  · rintro ⟨h1, h2⟩
    refine ⟨h1, fun b hb e => ?_⟩
    rw [decide_eq_true (List.mem_map.mpr ⟨b, hb, e⟩)] at h2
    cases h2
  · rintro ⟨h1, h2⟩
    refine ⟨h1, ?_⟩
    rw [decide_eq_false fun hm => ?_]
    · rfl
    · obtain ⟨b, mb, e⟩ := List.mem_map.mp hm
      exact h2 b mb e
theorem filter_split (q : Nat → Bool) : ∀ l : List Nat, l.length = (l.filter q).length + (l.filter fun x => !q x).length
  | [] => rfl
  | a :: l => by
    have ih := filter_split q l
    by_cases hq : q a = true
    · rw [List.filter_cons_of_pos hq, List.filter_cons_of_neg (by rw [hq]; decide), List.length_cons, List.length_cons]
      omega
    · have hq' : q a = false := by simpa using hq
      rw [List.filter_cons_of_neg hq, List.filter_cons_of_pos (by rw [hq']; rfl), List.length_cons, List.length_cons]
      omega
theorem frees_len {n : Nat} {bs : List (Nat × Vec p)} (h : PF n bs) : (frees n bs).length + bs.length = n := by
  have e : (List.range n).filter (isFirst bs) = bs.map (·.1) := by
    refine sorted_eq (List.Pairwise.filter _ List.pairwise_lt_range) (List.pairwise_map.mpr h.inc) fun x => ?_
    rw [List.mem_filter, List.mem_range]
    constructor
    · rintro ⟨_, h2⟩
      exact of_decide_eq_true h2
    · intro hx
      obtain ⟨b, mb, e⟩ := List.mem_map.mp hx
      exact ⟨by rw [← e]; exact h.lt b mb, decide_eq_true hx⟩
  have h1 := filter_split (isFirst bs) (List.range n)
  rw [e, List.length_range, List.length_map] at h1
  unfold frees
  omega
/-- so many of each of the worlds by the free places -/
def tellV (bs : List (Nat × Vec p)) (w : Vec p) : List Nat → Vec p
  | [] => zeroV
  | j :: js => addV (mulV (w j) (crossV bs j)) (tellV bs w js)
theorem tell_spn (bs : List (Nat × Vec p)) (w : Vec p) : ∀ js : List Nat, Spn (js.map (crossV bs)) (tellV bs w js)
  | [] => (spn_sub _).zero
  | j :: js => (spn_sub _).add ((spn_sub _).mul _ (spn_mem (by simp))) (spn_tail (tell_spn bs w js))
theorem tell_free (bs : List (Nat × Vec p)) (w : Vec p) {i : Nat} (hi : ∀ b ∈ bs, b.1 ≠ i) : ∀ js : List Nat, js.Nodup → tellV bs w js i = if i ∈ js then w i else 0
  | [], _ => rfl
  | j :: js, nd => by
    have nd' := List.nodup_cons.mp nd
    have ih := tell_free bs w hi js nd'.2
    show w j * crossV bs j i + tellV bs w js i = _
    rw [ih, cross_free bs j i hi]
    by_cases e : i = j
    · subst e
      rw [if_pos rfl, if_neg nd'.1, if_pos List.mem_cons_self]
      grind
    · rw [if_neg e]
      by_cases hm : i ∈ js
      · rw [if_pos hm, if_pos (List.mem_cons_of_mem _ hm)]
        grind
      · rw [if_neg hm, if_neg (by simp [e, hm])]
        grind
/-- worlds at which all rows of a room are worth 0 -/
def Perp (n : Nat) (S : Vec p → Prop) (w : Vec p) : Prop := (∀ i, n ≤ i → w i = 0) ∧ ∀ x, S x → dot n x w = 0
theorem perp_sub (n : Nat) (S : Vec p → Prop) : Sub (Perp n S) := by
  refine ⟨⟨fun _ _ => rfl, fun x _ => by rw [dot_comm, dot_zero]⟩, fun {x y} hx hy => ⟨fun i hi => ?_, fun z hz => ?_⟩, fun c {x} hx => ⟨fun i hi => ?_, fun z hz => ?_⟩⟩
  · show x i + y i = 0
    rw [hx.1 i hi, hy.1 i hi]
    grind
  · rw [dot_comm, dot_add, dot_comm n x z, dot_comm n y z, hx.2 z hz, hy.2 z hz]
    grind
  · show c * x i = 0
    rw [hx.1 i hi]
    grind
  · rw [dot_comm, dot_mul, dot_comm n x z, hx.2 z hz]
    grind
theorem PF.cross_perp {n : Nat} {bs : List (Nat × Vec p)} (h : PF n bs) {j : Nat} (hj : j < n) : Perp n (Spn (bs.map (·.2))) (crossV bs j) :=
  ⟨cross_wid bs n j h.lt hj, fun x hx => by rw [dot_cross n bs x j h.lt hj, (left_zero h x).mpr hx]; rfl⟩
theorem frees_nodup (n : Nat) (bs : List (Nat × Vec p)) : (frees n bs).Nodup := (List.nodup_range).filter _
/-- the worlds by the free places make them all -/
theorem PF.perp_spn {n : Nat} {bs : List (Nat × Vec p)} (h : PF n bs) (w : Vec p) : Spn ((frees n bs).map (crossV bs)) w ↔ Perp n (Spn (bs.map (·.2))) w := by
  constructor
  · intro hw
    refine spn_le (perp_sub n _) (fun v hv => ?_) hw
    obtain ⟨j, mj, rfl⟩ := List.mem_map.mp hv
    exact h.cross_perp (mem_frees.mp mj).1
  · intro hw
    have ht : Perp n (Spn (bs.map (·.2))) (tellV bs w (frees n bs)) := spn_le (perp_sub n _) (fun v hv => by
      obtain ⟨j, mj, rfl⟩ := List.mem_map.mp hv
      exact h.cross_perp (mem_frees.mp mj).1) (tell_spn bs w (frees n bs))
    have hd : Perp n (Spn (bs.map (·.2))) (fun i => w i - 1 * tellV bs w (frees n bs) i) := (perp_sub n _).less 1 hw ht
    have z1 : ∀ i, i < n → (∀ b ∈ bs, b.1 ≠ i) → w i - 1 * tellV bs w (frees n bs) i = 0 := fun i hi hb => by
      rw [tell_free bs w hb _ (frees_nodup n bs), if_pos (mem_frees.mpr ⟨hi, hb⟩)]
      grind
    have z2 : ∀ c ∈ bs, w c.1 - 1 * tellV bs w (frees n bs) c.1 = 0 := fun c hc => by
      have h0 := hd.2 c.2 (spn_mem (List.mem_map_of_mem hc))
      rw [dot_single (h.lt c hc) fun i hi ne => ?_] at h0
      · rw [h.one c hc] at h0
        grind
      · by_cases hp : ∃ b ∈ bs, b.1 = i
        · obtain ⟨b, mb, rfl⟩ := hp
          rw [h.off c hc b mb (Ne.symm ne)]
          grind
        · rw [z1 i hi fun b mb e => hp ⟨b, mb, e⟩]
          grind
    have e : w = tellV bs w (frees n bs) := by
      funext i
      rcases Nat.lt_or_ge i n with hi | hi
      · by_cases hp : ∃ b ∈ bs, b.1 = i
        · obtain ⟨b, mb, rfl⟩ := hp
          have := z2 b mb
          grind
        · have := z1 i hi fun b mb e => hp ⟨b, mb, e⟩
          grind
      · rw [hw.1 i hi, ht.1 i hi]
    rw [e]
    exact tell_spn bs w _
/-- rows each with a place of its own, at which those ahead have 0: none is made by those ahead -/
theorem Good.own_places {n : Nat} (g : Good inv n) (bs : List (Nat × Vec p)) (hw : ∀ j, j < n → ∀ i, n ≤ i → crossV bs j i = 0) : ∀ (m : Nat) (js : List Nat), js.length = m → js.Nodup → (∀ j ∈ js, j < n ∧ ∀ b ∈ bs, b.1 ≠ j) → dim inv n (js.map (crossV bs)) = js.length
  | 0, js, hl, _, _ => by
    have e : js = [] := List.eq_nil_of_length_eq_zero hl
    subst e
    exact dim_nil n
  | m + 1, js, hl, nd, hf => by
    obtain ⟨js', j, rfl⟩ : ∃ js' j, js = js' ++ [j] := by
      rcases List.eq_nil_or_concat js with e | ⟨l, b, e⟩
      · rw [e] at hl
        cases hl
      · exact ⟨l, b, by rw [e, List.concat_eq_append]⟩
    have nd' : js'.Nodup := (List.nodup_append.mp nd).1
    have nj : j ∉ js' := fun hm => (List.nodup_append.mp nd).2.2 j hm j (by simp) rfl
    have hf' : ∀ k ∈ js', k < n ∧ ∀ b ∈ bs, b.1 ≠ k := fun k hk => hf k (List.mem_append_left _ hk)
    have hj := hf j (by simp)
    have ih := own_places g bs hw m js' (by simpa using hl) nd' hf'
    have wd : Wid n (js'.map (crossV bs)) := fun x hx => by
      obtain ⟨k, mk, rfl⟩ := List.mem_map.mp hx
      exact hw k (hf' k mk).1
    rw [List.map_append, List.map_cons, List.map_nil, g.out wd (hw j hj.1) fun hs => ?_, ih]
    · simp
    · have hz : Sub (fun x : Vec p => x j = 0) := ⟨rfl, fun {x y} hx hy => by show x j + y j = 0; rw [hx, hy]; grind, fun c {x} hx => by show c * x j = 0; rw [hx]; grind⟩
      have h0 : crossV bs j j = 0 := spn_le hz (fun v hv => by
        obtain ⟨k, mk, rfl⟩ := List.mem_map.mp hv
        rw [cross_free bs k j hj.2, if_neg (fun e => nj (by rw [e]; exact mk))]) hs
      rw [cross_free bs j j hj.2, if_pos rfl] at h0
      exact g.one h0
theorem Good.perp_dim {n : Nat} (g : Good inv n) {bs : List (Nat × Vec p)} (h : PF n bs) : dim inv n ((frees n bs).map (crossV bs)) + bs.length = n := by
  rw [g.own_places bs (fun j hj => cross_wid bs n j h.lt hj) _ _ rfl (frees_nodup n bs) fun j hj => mem_frees.mp hj]
  exact frees_len h
theorem Good.pf_dim {n : Nat} (g : Good inv n) {bs : List (Nat × Vec p)} (h : PF n bs) : dim inv n (bs.map (·.2)) = bs.length := by
  have hw : Wid n (bs.map (·.2)) := fun x hx => by
    obtain ⟨b, mb, rfl⟩ := List.mem_map.mp hx
    exact h.wid b mb
  have e := h.uniq g.one (plainV_pf inv g.inv hw) fun x => (plainV_spn inv g.inv hw x).symm
  unfold dim
  rw [← e]
/-- across of across is the room again -/
theorem Good.perp_perp {n : Nat} (g : Good inv n) {bs cs : List (Nat × Vec p)} (hb : PF n bs) (hc : PF n cs) (h : ∀ w, Spn (cs.map (·.2)) w ↔ Perp n (Spn (bs.map (·.2))) w) (x : Vec p) : Perp n (Spn (cs.map (·.2))) x ↔ Spn (bs.map (·.2)) x := by
  have hbw : ∀ y, Spn (bs.map (·.2)) y → ∀ i, n ≤ i → y i = 0 := fun y hy i hi => by
    have hz : Sub (fun x : Vec p => x i = 0) := ⟨rfl, fun {x y} hx hy => by show x i + y i = 0; rw [hx, hy]; grind, fun c {x} hx => by show c * x i = 0; rw [hx]; grind⟩
    refine spn_le hz (fun v hv => ?_) hy
    obtain ⟨b, mb, rfl⟩ := List.mem_map.mp hv
    exact hb.wid b mb i hi
  have sub : ∀ y, Spn (bs.map (·.2)) y → Perp n (Spn (cs.map (·.2))) y := fun y hy => ⟨hbw y hy, fun w hw => by rw [dot_comm]; exact ((h w).mp hw).2 y hy⟩
  refine ⟨fun hx => ?_, sub x⟩
  -- sizes: n - (n - s)
  have wc : Wid n ((frees n cs).map (crossV cs)) := fun y hy => by
    obtain ⟨k, mk, rfl⟩ := List.mem_map.mp hy
    exact cross_wid cs n k hc.lt (mem_frees.mp mk).1
  have wb : Wid n ((frees n bs).map (crossV bs)) := fun y hy => by
    obtain ⟨k, mk, rfl⟩ := List.mem_map.mp hy
    exact cross_wid bs n k hb.lt (mem_frees.mp mk).1
  have d1 := g.perp_dim hb
  have d2 := g.perp_dim hc
  have wcs : Wid n (cs.map (·.2)) := fun x hx => by
    obtain ⟨b, mb, rfl⟩ := List.mem_map.mp hx
    exact hc.wid b mb
  have d3 : dim inv n ((frees n bs).map (crossV bs)) = cs.length := by
    rw [g.same wb wcs fun w => (hb.perp_spn w).trans (h w).symm, g.pf_dim hc]
  have hP := plainV_pf inv g.inv wc
  have sP := plainV_spn inv g.inv wc
  have := hb.same_of_len hP g.one (fun y hy => (sP y).mpr ((hc.perp_spn y).mpr (sub y hy))) (by
    show dim inv n ((frees n cs).map (crossV cs)) ≤ bs.length
    omega) ((sP x).mpr ((hc.perp_spn x).mpr hx))
  exact this
/-- across of both rooms joined is what their across share -/
theorem perp_app {n : Nat} {us ws : List (Vec p)} (w : Vec p) : Perp n (Spn (us ++ ws)) w ↔ Perp n (Spn us) w ∧ Perp n (Spn ws) w := by
  constructor
  · intro h
    exact ⟨⟨h.1, fun x hx => h.2 x (spn_left hx)⟩, ⟨h.1, fun x hx => h.2 x (spn_right hx)⟩⟩
  · rintro ⟨h1, h2⟩
    refine ⟨h1.1, fun x hx => ?_⟩
    obtain ⟨s, t, hs, ht, rfl⟩ := spn_app.mp hx
    rw [dot_add, h1.2 s hs, h2.2 t ht]
    grind
end
end Lin

/-! Which of some rows are needed: those that the ones ahead of them don't make. -/
namespace OC
open Lin
theorem snoc_ind {α : Type} {P : List α → Prop} (h0 : P []) (h1 : ∀ l a, P l → P (l ++ [a])) (l : List α) : P l := by
  have h : ∀ l : List α, P l.reverse := by
    intro l
    induction l with
    | nil => exact h0
    | cons a l ih =>
      rw [List.reverse_cons]
      exact h1 _ _ ih
  have := h l.reverse
  rwa [List.reverse_reverse] at this
def grows (p : Int) (n : Nat) (rs : List (List Int)) (k : Nat) : Bool := decide ((plainR p n (rs.take k)).length < (plainR p n (rs.take (k + 1))).length)
def needR (p : Int) (n : Nat) (rs : List (List Int)) : List Nat := (List.range rs.length).filter (grows p n rs)
def someR (p : Int) (n : Nat) (rs : List (List Int)) : List (List Int) := (needR p n rs).map fun k => rs.getD k []
theorem grows_old {p : Int} {n : Nat} {rs : List (List Int)} {r : List Int} {k : Nat} (h : k < rs.length) : grows p n (rs ++ [r]) k = grows p n rs k := by
  unfold grows
  rw [List.take_append_of_le_length (by omega), List.take_append_of_le_length (by omega)]
theorem grows_new {p : Int} {n : Nat} {rs : List (List Int)} {r : List Int} : grows p n (rs ++ [r]) rs.length = decide ((plainR p n rs).length < (plainR p n (rs ++ [r])).length) := by
  unfold grows
  rw [List.take_append_of_le_length (Nat.le_refl _), List.take_length, List.take_of_length_le (by simp)]
theorem needR_lt {p : Int} {n : Nat} {rs : List (List Int)} {k : Nat} (h : k ∈ needR p n rs) : k < rs.length := List.mem_range.mp (List.mem_filter.mp h).1
theorem needR_snoc (p : Int) (n : Nat) (rs : List (List Int)) (r : List Int) : needR p n (rs ++ [r]) = needR p n rs ++ (if (plainR p n rs).length < (plainR p n (rs ++ [r])).length then [rs.length] else []) := by
  unfold needR
  rw [show (rs ++ [r]).length = rs.length + 1 from by simp, List.range_succ, List.filter_append]
  congr 1
  · apply List.filter_congr
    intro k hk
    exact grows_old (List.mem_range.mp hk)
  · by_cases h : (plainR p n rs).length < (plainR p n (rs ++ [r])).length
    · rw [if_pos h, List.filter_cons_of_pos (by rw [grows_new]; exact decide_eq_true h)]
      rfl
    · rw [if_neg h, List.filter_cons_of_neg (by rw [grows_new, decide_eq_false h]; decide)]
      rfl
theorem someR_snoc (p : Int) (n : Nat) (rs : List (List Int)) (r : List Int) : someR p n (rs ++ [r]) = someR p n rs ++ (if (plainR p n rs).length < (plainR p n (rs ++ [r])).length then [r] else []) := by
  unfold someR
  rw [needR_snoc, List.map_append]
  congr 1
  · apply List.map_congr_left
    intro k hk
    have := needR_lt hk
    rw [List.getD_eq_getElem?_getD, List.getD_eq_getElem?_getD, List.getElem?_append_left this]
  · by_cases h : (plainR p n rs).length < (plainR p n (rs ++ [r])).length
    · rw [if_pos h, if_pos h]
      simp
    · rw [if_neg h, if_neg h]
      rfl
section
variable {q : Nat} [NeZero q]
theorem rowsOk_app {p : Int} {n : Nat} {rs ts : List (List Int)} (h1 : RowsOk p n rs) (h2 : RowsOk p n ts) : RowsOk p n (rs ++ ts) := fun x hx => by
  rcases List.mem_append.mp hx with h' | h'
  · exact h1 x h'
  · exact h2 x h'
theorem rowsOk_nil {p : Int} {n : Nat} : RowsOk p n [] := fun r hr => (nomatch hr)
theorem rowsOk_left {p : Int} {n : Nat} {rs ts : List (List Int)} (h : RowsOk p n (rs ++ ts)) : RowsOk p n rs := fun x hx => h x (List.mem_append_left _ hx)
theorem rowsOk_right {p : Int} {n : Nat} {rs ts : List (List Int)} (h : RowsOk p n (rs ++ ts)) : RowsOk p n ts := fun x hx => h x (List.mem_append_right _ hx)
theorem plainR_more (hF : Fld (q : Int)) {n : Nat} {rows : List (List Int)} {r : List Int} (h : RowsOk q n rows) (hr : RowsOk q n [r]) (hn : ¬ Mk q rows (toV r)) : (plainR q n (rows ++ [r])).length = (plainR q n rows).length + 1 := by
  have h2 : (2 : Int) ≤ q := hF.1
  have hr' := hr r List.mem_cons_self
  rw [plainR_len h, plainR_len (rowsOk_app h hr), List.map_append, List.map_cons, List.map_nil]
  exact plainV_more invF (one_ne (by omega)) (invF_ok hF) (rows_wid h) (fun i hi => toV_wid hr'.1 i hi) hn
theorem plainR_grows (hF : Fld (q : Int)) {n : Nat} {rows : List (List Int)} {r : List Int} (h : RowsOk q n rows) (hr : RowsOk q n [r]) : (plainR q n rows).length < (plainR q n (rows ++ [r])).length ↔ ¬ Mk q rows (toV r) := by
  constructor
  · intro hl hm
    have := (plainR_has hF h hr).mpr hm
    omega
  · intro hm
    have := plainR_more hF h hr hm
    omega
theorem mk_app_of {rows : List (List Int)} {r : List Int} (h : Mk q rows (toV r)) (x : Vec q) : Mk q (rows ++ [r]) x ↔ Mk q rows x := by
  unfold Mk
  rw [List.map_append]
  constructor
  · intro hx
    exact spn_append (spn_sub _) (fun _ h => h) (fun y hy => spn_sub_of (fun v hv => by
      have : v = toV r := by simpa using hv
      rw [this]
      exact h) hy) x hx
  · exact spn_left
theorem mk_app_congr {rows ts : List (List Int)} {r : List Int} (h : ∀ x, Mk q rows x ↔ Mk q ts x) (x : Vec q) : Mk q (rows ++ [r]) x ↔ Mk q (ts ++ [r]) x := by
  unfold Mk at *
  rw [List.map_append, List.map_append]
  constructor
  · intro hx
    exact spn_append (spn_sub _) (fun y hy => spn_left ((h y).mp hy)) (fun y hy => spn_right hy) x hx
  · intro hx
    exact spn_append (spn_sub _) (fun y hy => spn_left ((h y).mpr hy)) (fun y hy => spn_right hy) x hx
theorem plainR_congr (hF : Fld (q : Int)) {n : Nat} {one other : List (List Int)} (h1 : RowsOk q n one) (h2 : RowsOk q n other) (h : ∀ x, Mk q one x ↔ Mk q other x) : plainR q n one = plainR q n other :=
  (plainR_pf hF h1).plain hF h2 fun x => (plainR_mk hF h1 x).trans (h x)
theorem someR_mem {p : Int} {n : Nat} {rs : List (List Int)} {r : List Int} (h : r ∈ someR p n rs) : r ∈ rs := by
  obtain ⟨k, hk, rfl⟩ := List.mem_map.mp h
  have := needR_lt hk
  rw [List.getD_eq_getElem?_getD, List.getElem?_eq_getElem this]
  exact List.getElem_mem this
theorem someR_ok {p : Int} {n : Nat} {rs : List (List Int)} (h : RowsOk p n rs) : RowsOk p n (someR p n rs) := fun r hr => h r (someR_mem hr)
theorem someR_all (hF : Fld (q : Int)) {n : Nat} (rs : List (List Int)) : RowsOk q n rs → (∀ x, Mk q (someR q n rs) x ↔ Mk q rs x) ∧ (someR q n rs).length = (plainR q n rs).length ∧ needR q n (someR q n rs) = List.range (someR q n rs).length := by
  refine snoc_ind (P := fun rs => RowsOk q n rs → (∀ x, Mk q (someR q n rs) x ↔ Mk q rs x) ∧ (someR q n rs).length = (plainR q n rs).length ∧ needR q n (someR q n rs) = List.range (someR q n rs).length) (fun _ => ?_) (fun rs r ih hok => ?_) rs
  · refine ⟨fun _ => Iff.rfl, ?_, rfl⟩
    have h := (plainR_pf hF (n := n) (rows := []) rowsOk_nil)
    have : plainR q n [] = [] := (IsPF.uniq hF h ⟨rowsOk_nil, [], by
      constructor <;> intros <;> (try contradiction) <;> (try exact List.Pairwise.nil), rfl⟩ fun x => plainR_mk hF rowsOk_nil x)
    rw [this]
    rfl
  · have ok1 := rowsOk_left hok
    have ok2 := rowsOk_right hok
    obtain ⟨i1, i2, i3⟩ := ih ok1
    have oks := someR_ok (n := n) ok1
    rw [someR_snoc]
    by_cases hm : Mk q rs (toV r)
    · have hg : ¬ (plainR q n rs).length < (plainR q n (rs ++ [r])).length := fun h => (plainR_grows hF ok1 ok2).mp h hm
      rw [if_neg hg, List.append_nil]
      refine ⟨fun x => (i1 x).trans (mk_app_of hm x).symm, ?_, i3⟩
      rw [i2, (plainR_has hF ok1 ok2).mpr hm]
    · have hg := (plainR_grows hF ok1 ok2).mpr hm
      rw [if_pos hg]
      refine ⟨fun x => mk_app_congr i1 x, ?_, ?_⟩
      · rw [List.length_append, i2, plainR_more hF ok1 ok2 hm]
        rfl
      · rw [needR_snoc, i3, if_pos ((plainR_grows hF oks ok2).mpr fun h => hm ((i1 _).mp h)), List.length_append]
        exact List.range_succ.symm
theorem needR_len (p : Int) (n : Nat) (rs : List (List Int)) : (needR p n rs).length = (someR p n rs).length := (List.length_map _).symm
end
end OC

/-! The program's own way to the plain form: a row more, taken off, made plain, sorted. Core Lean alone. -/
namespace Lin
set_option linter.all false
section
variable {p : Nat} [NeZero p]
def leftF (bs : List (Nat × Vec p)) (x : Vec p) : Vec p := bs.foldl (fun x b => lessV x b.2 b.1) x
theorem red_congr : ∀ (l : List (Nat × Vec p)) (x y : Vec p), (∀ c ∈ l, y c.1 = x c.1) → red l y = red l x
  | [], _, _, _ => rfl
  | b :: l, x, y, h => by
    show addV (mulV (y b.1) b.2) (red l y) = addV (mulV (x b.1) b.2) (red l x)
    rw [h b List.mem_cons_self, red_congr l x y fun c hc => h c (List.mem_cons_of_mem _ hc)]
theorem leftF_eq : ∀ (l : List (Nat × Vec p)) (x : Vec p), l.Pairwise (fun a c => a.2 c.1 = 0) → leftF l x = leftV l x
  | [], x, _ => by
    funext i
    show x i = x i - 0
    grind
  | b :: l, x, h => by
    obtain ⟨h1, h2⟩ := List.pairwise_cons.mp h
    show leftF l (lessV x b.2 b.1) = _
    rw [leftF_eq l _ h2]
    have e : red l (lessV x b.2 b.1) = red l x := red_congr l x _ fun c hc => by
      show x c.1 - x b.1 * b.2 c.1 = x c.1
      rw [h1 c hc]
      grind
    funext i
    show (x i - x b.1 * b.2 i) - red l (lessV x b.2 b.1) i = x i - (x b.1 * b.2 i + red l x i)
    rw [e]
    grind
theorem PF.leftF {n : Nat} {bs : List (Nat × Vec p)} (h : PF n bs) (x : Vec p) : leftF bs x = leftV bs x := by
  refine leftF_eq bs x ?_
  refine h.inc.imp_of_mem fun {a c} ha hc hlt => h.off a ha c hc (by omega)
theorem red_wid : ∀ (l : List (Nat × Vec p)) (x : Vec p) (i : Nat), (∀ b ∈ l, b.2 i = 0) → red l x i = 0
  | [], _, _, _ => rfl
  | b :: l, x, i, h => by
    show x b.1 * b.2 i + red l x i = 0
    rw [red_wid l x i fun c hc => h c (List.mem_cons_of_mem _ hc), h b List.mem_cons_self]
    grind
/-- the pairs behind one row more -/
def moreV (inv : Fin p → Fin p) (bs : List (Nat × Vec p)) (y : Vec p) (j : Nat) : List (Nat × Vec p) := (j, ownV inv y j) :: bs.map fun b => (b.1, lessV b.2 (ownV inv y j) j)
variable (inv : Fin p → Fin p)
theorem moreV_pf {n : Nat} {bs : List (Nat × Vec p)} (h : PF n bs) (hinv : ∀ a : Fin p, a ≠ 0 → inv a * a = 1) {x : Vec p} (hx : ∀ i, n ≤ i → x i = 0) {j : Nat} (hj : Lead (leftV bs x) j) {cs : List (Nat × Vec p)} (hp : cs.Perm (moreV inv bs (leftV bs x) j)) (hi : cs.Pairwise (fun a b => a.1 < b.1)) :
    PF n cs ∧ ∀ z, Spn (cs.map (·.2)) z ↔ Spn (bs.map (·.2) ++ [x]) z := by
  generalize hy : leftV bs x = y at hj hp
  have yb : ∀ b ∈ bs, y b.1 = 0 := fun b hb => by rw [← hy]; exact left_at h x hb
  have yw : ∀ i, n ≤ i → y i = 0 := fun i hi => by
    rw [← hy]
    show x i - red bs x i = 0
    rw [hx i hi, red_wid bs x i fun b hb => h.wid b hb i hi]
    grind
  have jn : j < n := by
    rcases Nat.lt_or_ge j n with h' | h'
    · exact h'
    · exact absurd (yw j h') hj.1
  have jb : ∀ b ∈ bs, b.1 ≠ j := fun b hb e => hj.1 (by rw [← e]; exact yb b hb)
  generalize hf : ownV inv y j = f
  have fd : ∀ i, f i = inv (y j) * y i := fun i => by rw [← hf]; rfl
  have fj : f j = 1 := by rw [fd]; exact hinv _ hj.1
  have f0 : ∀ i, y i = 0 → f i = 0 := fun i e => by rw [fd, e]; grind
  have mem : ∀ c, c ∈ cs ↔ c = (j, f) ∨ ∃ b ∈ bs, c = (b.1, lessV b.2 f j) := fun c => by
    rw [hp.mem_iff]
    unfold moreV
    rw [hf, List.mem_cons, List.mem_map]
    constructor
    · rintro (e | ⟨b, hb, e⟩)
      · exact .inl e
      · exact .inr ⟨b, hb, e.symm⟩
    · rintro (e | ⟨b, hb, e⟩)
      · exact .inl e
      · exact .inr ⟨b, hb, e.symm⟩
  constructor
  · refine ⟨hi, fun c hc => ?_, fun c hc => ?_, fun c hc i hl => ?_, fun c hc d hd hne => ?_, fun c hc i hl => ?_⟩
    · rcases (mem c).mp hc with rfl | ⟨b, hb, rfl⟩
      · exact jn
      · exact h.lt b hb
    · rcases (mem c).mp hc with rfl | ⟨b, hb, rfl⟩
      · exact fj
      · show b.2 b.1 - b.2 j * f b.1 = 1
        rw [f0 _ (yb b hb), h.one b hb]
        grind
    · rcases (mem c).mp hc with rfl | ⟨b, hb, rfl⟩
      · exact f0 i (hj.2 i hl)
      · have hl : i < b.1 := hl
        show b.2 i - b.2 j * f i = 0
        rw [h.low b hb i hl]
        rcases Nat.lt_or_ge i j with h' | h'
        · rw [f0 i (hj.2 i h')]
          grind
        · rw [h.low b hb j (by omega)]
          grind
    · rcases (mem c).mp hc with rfl | ⟨b, hb, rfl⟩
      · rcases (mem d).mp hd with rfl | ⟨b', hb', rfl⟩
        · exact absurd rfl hne
        · exact f0 _ (yb b' hb')
      · rcases (mem d).mp hd with rfl | ⟨b', hb', rfl⟩
        · show b.2 j - b.2 j * f j = 0
          rw [fj]
          grind
        · show b.2 b'.1 - b.2 j * f b'.1 = 0
          rw [f0 _ (yb b' hb'), h.off b hb b' hb' hne]
          grind
    · rcases (mem c).mp hc with rfl | ⟨b, hb, rfl⟩
      · exact f0 i (yw i hl)
      · show b.2 i - b.2 j * f i = 0
        rw [f0 i (yw i hl), h.wid b hb i hl]
        grind
  · have Sc := spn_sub (cs.map (·.2))
    have Sx := spn_sub (bs.map (·.2) ++ [x])
    have inb : ∀ b ∈ bs, Spn (bs.map (·.2) ++ [x]) b.2 := fun b hb => spn_mem (List.mem_append_left _ (List.mem_map_of_mem hb))
    have inx : Spn (bs.map (·.2) ++ [x]) x := spn_mem (List.mem_append_right _ List.mem_cons_self)
    have iny : Spn (bs.map (·.2) ++ [x]) y := by
      have hr : Spn (bs.map (·.2) ++ [x]) (red bs x) := spn_left (spn_red bs x)
      have := Sx.less 1 inx hr
      have e : y = fun i => x i - 1 * red bs x i := by
        rw [← hy]
        funext i
        show x i - red bs x i = x i - 1 * red bs x i
        grind
      rw [e]
      exact this
    have inf : Spn (bs.map (·.2) ++ [x]) f := by
      have := Sx.mul (inv (y j)) iny
      rw [← hf]
      exact this
    have cf : Spn (cs.map (·.2)) f := spn_mem (List.mem_map.mpr ⟨(j, f), (mem _).mpr (.inl rfl), rfl⟩)
    have cb : ∀ b ∈ bs, Spn (cs.map (·.2)) b.2 := fun b hb => by
      have h1 : Spn (cs.map (·.2)) (lessV b.2 f j) := spn_mem (List.mem_map.mpr ⟨(b.1, lessV b.2 f j), (mem _).mpr (.inr ⟨b, hb, rfl⟩), rfl⟩)
      have h2 := Sc.add h1 (Sc.mul (b.2 j) cf)
      have e : b.2 = addV (lessV b.2 f j) (mulV (b.2 j) f) := by
        funext i
        show b.2 i = (b.2 i - b.2 j * f i) + b.2 j * f i
        grind
      rw [e]
      exact h2
    have cx : Spn (cs.map (·.2)) x := by
      have h1 : Spn (cs.map (·.2)) (red bs x) := spn_le Sc (fun v hv => by
        obtain ⟨b, hb, rfl⟩ := List.mem_map.mp hv
        exact cb b hb) (spn_red bs x)
      have h2 := Sc.add h1 (Sc.mul (y j) cf)
      have e : x = addV (red bs x) (mulV (y j) f) := by
        funext i
        show x i = red bs x i + y j * f i
        have e1 : y i = x i - red bs x i := by rw [← hy]; rfl
        have e2 := hinv _ hj.1
        rw [fd]
        grind
      rw [e]
      exact h2
    intro z
    constructor
    · intro hz
      refine spn_le Sx (fun v hv => ?_) hz
      obtain ⟨c, hc, rfl⟩ := List.mem_map.mp hv
      rcases (mem c).mp hc with rfl | ⟨b, hb, rfl⟩
      · exact inf
      · exact Sx.less (b.2 j) (inb b hb) inf
    · intro hz
      refine spn_le Sc (fun v hv => ?_) hz
      rcases List.mem_append.mp hv with hv | hv
      · obtain ⟨b, hb, rfl⟩ := List.mem_map.mp hv
        exact cb b hb
      · have : v = x := by simpa using hv
        rw [this]
        exact cx
end
end Lin
namespace OC
set_option linter.all false
open Lin
/-! ### first places -/
def fpR (r : List Int) : Nat := r.findIdx fun x => decide (x ≠ 0)
theorem fpR_le (r : List Int) : fpR r ≤ r.length := List.findIdx_le_length
theorem fpR_of {r : List Int} {j : Nat} (h : r.getD j 0 ≠ 0) (hl : ∀ i, i < j → r.getD i 0 = 0) : fpR r = j := by
  have hj : j < r.length := by
    rcases Nat.lt_or_ge j r.length with h' | h'
    · exact h'
    · exact absurd (gd_ge h') h
  unfold fpR
  rw [List.findIdx_eq hj]
  refine ⟨decide_eq_true (by rw [gd_lt hj] at h; exact h), fun i hi => ?_⟩
  have := hl i hi
  rw [gd_lt (by omega)] at this
  rw [this]
  rfl
theorem fpR_at {r : List Int} (h : fpR r < r.length) : r.getD (fpR r) 0 ≠ 0 := by
  have e := List.findIdx_getElem (xs := r) (p := fun x => decide (x ≠ 0)) (w := h)
  rw [gd_lt h]
  exact of_decide_eq_true e
theorem fpR_low {r : List Int} {i : Nat} (h : i < fpR r) : r.getD i 0 = 0 := by
  have hl : i < r.length := Nat.lt_of_lt_of_le h (fpR_le r)
  have e := List.not_of_lt_findIdx h
  rw [gd_lt hl]
  apply Classical.byContradiction
  intro hne
  have e2 : decide (r[i] ≠ 0) = true := decide_eq_true hne
  rw [e2] at e
  cases e
theorem fpR_all {r : List Int} (h : fpR r = r.length) : ∀ x ∈ r, x = 0 := by
  intro x hx
  obtain ⟨i, hi, rfl⟩ := List.getElem_of_mem hx
  have := fpR_low (r := r) (i := i) (by omega)
  rwa [gd_lt hi] at this
def leftR (p : Int) (room : List (List Int)) (r : List Int) : List Int := room.foldl (fun r b => lessR p r b (fpR b)) r
/-! ### the order of tuples -/
def codeR (B : Int) : List Int → Int
  | [] => 0
  | d :: r => d * B ^ r.length + codeR B r
theorem codeR_bd {B : Int} (hB : 0 < B) : ∀ r : List Int, (∀ x ∈ r, 0 ≤ x ∧ x < B) → 0 ≤ codeR B r ∧ codeR B r < B ^ r.length
  | [], _ => by
    refine ⟨Int.le_refl _, ?_⟩
    show (0 : Int) < B ^ 0
    rw [Int.pow_zero]
    decide
  | d :: r, h => by
    obtain ⟨c0, c1⟩ := codeR_bd hB r fun x hx => h x (List.mem_cons_of_mem _ hx)
    obtain ⟨d0, d1⟩ := h d List.mem_cons_self
    show 0 ≤ d * B ^ r.length + codeR B r ∧ d * B ^ r.length + codeR B r < B ^ (r.length + 1)
    rw [Int.pow_succ]
    generalize B ^ r.length = P at c1 ⊢
    generalize codeR B r = c at c0 c1 ⊢
    have p1 : (d + 1) * P ≤ B * P := Int.mul_le_mul_of_nonneg_right (by omega) (by omega)
    have p2 : 0 * P ≤ d * P := Int.mul_le_mul_of_nonneg_right d0 (by omega)
    rw [Int.add_mul, Int.one_mul, Int.mul_comm B P] at p1
    rw [Int.zero_mul] at p2
    generalize d * P = X at p1 p2 ⊢
    generalize P * B = Y at p1 ⊢
    constructor <;> omega
theorem fpR_zero (r : List Int) : fpR (0 :: r) = fpR r + 1 := by
  unfold fpR
  rw [List.findIdx_cons]
  simp
theorem fpR_nz {d : Int} (h : d ≠ 0) (r : List Int) : fpR (d :: r) = 0 := by
  unfold fpR
  rw [List.findIdx_cons]
  simp [h]
theorem code_lead {B : Int} (hB : 0 < B) : ∀ (a b : List Int), a.length = b.length → (∀ x ∈ a, 0 ≤ x ∧ x < B) → (∀ x ∈ b, 0 ≤ x ∧ x < B) → fpR b < fpR a → codeR B a < codeR B b
  | [], [], _, _, _, h => absurd h (Nat.lt_irrefl _)
  | [], _ :: _, e, _, _, _ => by cases e
  | _ :: _, [], e, _, _, _ => by cases e
  | x :: a, y :: b, e, ha, hb, h => by
    have e' : a.length = b.length := Nat.succ.inj e
    have x0 : x = 0 := by
      apply Classical.byContradiction
      intro hx
      rw [fpR_nz hx] at h
      exact Nat.not_lt_zero _ h
    subst x0
    have ha' : ∀ x ∈ a, 0 ≤ x ∧ x < B := fun x hx => ha x (List.mem_cons_of_mem _ hx)
    have hb' : ∀ x ∈ b, 0 ≤ x ∧ x < B := fun x hx => hb x (List.mem_cons_of_mem _ hx)
    show 0 * B ^ a.length + codeR B a < y * B ^ b.length + codeR B b
    by_cases hy : y = 0
    · subst hy
      rw [fpR_zero, fpR_zero] at h
      have := code_lead hB a b e' ha' hb' (by omega)
      omega
    · have c1 := (codeR_bd hB a ha').2
      have c2 := (codeR_bd hB b hb').1
      have y1 := (hb y List.mem_cons_self).1
      rw [e'] at c1
      generalize B ^ b.length = P at c1 ⊢
      rw [Int.zero_mul]
      have p1 : 1 * P ≤ y * P := by
        have c0 := (codeR_bd hB a ha').1
        exact Int.mul_le_mul_of_nonneg_right (by omega) (by omega)
      rw [Int.one_mul] at p1
      generalize y * P = X at p1 ⊢
      omega
/-! ### rows -/
section
variable {q : Nat} [NeZero q]
theorem toV_ne {r : List Int} (h : ∀ x ∈ r, 0 ≤ x ∧ x < (q : Int)) (i : Nat) : toV (q := q) r i ≠ 0 ↔ r.getD i 0 ≠ 0 := cF_ne (getD_lt q_pos h i)
theorem toV_eq0 {r : List Int} (h : ∀ x ∈ r, 0 ≤ x ∧ x < (q : Int)) (i : Nat) : toV (q := q) r i = 0 ↔ r.getD i 0 = 0 := by
  have := toV_ne h i
  constructor
  · intro e
    apply Classical.byContradiction
    intro hn
    exact this.mpr hn e
  · intro e
    apply Classical.byContradiction
    intro hn
    exact this.mp hn e
theorem fpR_lead {r : List Int} {j : Nat} (h : ∀ x ∈ r, 0 ≤ x ∧ x < (q : Int)) (hl : Lead (toV (q := q) r) j) : fpR r = j := fpR_of ((toV_ne h j).mp hl.1) fun i hi => (toV_eq0 h i).mp (hl.2 i hi)
theorem lead_fpR {r : List Int} (h : ∀ x ∈ r, 0 ≤ x ∧ x < (q : Int)) (hl : fpR r < r.length) : Lead (toV (q := q) r) (fpR r) := ⟨(toV_ne h _).mpr (fpR_at hl), fun i hi => (toV_eq0 h i).mpr (fpR_low hi)⟩
theorem leftR_sim {n : Nat} : ∀ (room : List (List Int)) (bs : List (Nat × Vec q)) (r : List Int), RowsOk q n room → RowsOk q n [r] → bs.map (·.2) = room.map (toV (q := q)) → (∀ b ∈ bs, Lead b.2 b.1) → RowsOk q n [leftR q room r] ∧ toV (q := q) (leftR q room r) = leftF bs (toV r)
  | [], [], r, _, h, _, _ => ⟨h, rfl⟩
  | [], _ :: _, _, _, _, e, _ => by cases e
  | _ :: _, [], _, _, _, e, _ => by cases e
  | c :: room, b :: bs, r, h1, h2, e, hl => by
    rw [List.map_cons, List.map_cons] at e
    obtain ⟨e1, e2⟩ := List.cons.inj e
    have hc := h1 c List.mem_cons_self
    have hr := h2 r List.mem_cons_self
    have fj : fpR c = b.1 := fpR_lead (q := q) hc.2 (by rw [← e1]; exact hl b List.mem_cons_self)
    have ok : RowsOk q n [lessR q r c (fpR c)] := fun x hx => by
      have : x = lessR q r c (fpR c) := by simpa using hx
      rw [this]
      exact less_row q_pos hr.1 hc.1 _
    obtain ⟨a1, a2⟩ := leftR_sim room bs (lessR q r c (fpR c)) (fun x hx => h1 x (List.mem_cons_of_mem _ hx)) ok e2 fun x hx => hl x (List.mem_cons_of_mem _ hx)
    refine ⟨a1, ?_⟩
    show toV (q := q) (leftR q room (lessR q r c (fpR c))) = leftF bs (lessV (toV r) b.2 b.1)
    rw [a2, toV_less (by rw [hr.1, hc.1]), fj, e1]
theorem q2 (hF : Fld (q : Int)) : 2 ≤ q := by
  have : (2 : Int) ≤ q := hF.1
  omega
theorem IsPF.left (hF : Fld (q : Int)) {n : Nat} {room : List (List Int)} (h : IsPF q n room) {r : List Int} (hr : RowsOk q n [r]) : ∃ bs, PF n bs ∧ bs.map (·.2) = room.map (toV (q := q)) ∧ RowsOk q n [leftR q room r] ∧ toV (q := q) (leftR q room r) = leftV bs (toV r) := by
  obtain ⟨ok, bs, pf, e⟩ := h
  obtain ⟨a1, a2⟩ := leftR_sim room bs r ok hr e fun b hb => pf.leads (one_ne (q2 hF)) hb
  exact ⟨bs, pf, e, a1, by rw [a2, pf.leftF]⟩
theorem noughts_toV {r : List Int} (h : ∀ x ∈ r, 0 ≤ x ∧ x < (q : Int)) : toV (q := q) r = zeroV ↔ ∀ x ∈ r, x = 0 := by
  constructor
  · intro e x hx
    obtain ⟨i, hi, rfl⟩ := List.getElem_of_mem hx
    have := (toV_eq0 h i).mp (congrFun e i)
    rwa [gd_lt hi] at this
  · intro e
    funext i
    refine (toV_eq0 h i).mpr ?_
    by_cases hi : i < r.length
    · rw [gd_lt hi]
      exact e _ (List.getElem_mem hi)
    · exact gd_ge (by omega)
/-- noughts are left just where the room has the row -/
theorem IsPF.left_zero (hF : Fld (q : Int)) {n : Nat} {room : List (List Int)} (h : IsPF q n room) {r : List Int} (hr : RowsOk q n [r]) : (∀ x ∈ leftR q room r, x = 0) ↔ Mk q room (toV r) := by
  obtain ⟨bs, pf, e, ok, et⟩ := h.left hF hr
  rw [← noughts_toV (ok _ List.mem_cons_self).2, et, Lin.left_zero pf, e]
  rfl
theorem perm_pw {α : Type} {R : α → α → Prop} {l m : List α} (hs : ∀ a b, R a b → R b a) (hp : l.Perm m) (h : m.Pairwise R) : l.Pairwise R := (hp.pairwise_iff fun {a b} => hs a b).mpr h
/-- the plain form behind one row more, as the program makes it -/
theorem IsPF.widen (hF : Fld (q : Int)) {n : Nat} {room : List (List Int)} (h : IsPF q n room) {r : List Int} (hr : RowsOk q n [r]) (hne : fpR (leftR q room r) < n) {rs : List (List Int)}
    (hp : rs.Perm (ownR q (leftR q room r) (fpR (leftR q room r)) :: room.map fun b => lessR q b (ownR q (leftR q room r) (fpR (leftR q room r))) (fpR (leftR q room r)))) (hs : rs.Pairwise fun a b => codeR q b ≤ codeR q a) : rs = plainR q n (room ++ [r]) := by
  obtain ⟨bs, pf, e, ok, et⟩ := h.left hF hr
  have okl := ok _ List.mem_cons_self
  have hall : RowsOk q n (room ++ [r]) := rowsOk_app h.1 hr
  have ld : Lead (leftV bs (toV r)) (fpR (leftR q room r)) := by
    rw [← et]
    exact lead_fpR okl.2 (by rw [okl.1]; exact hne)
  generalize hj : fpR (leftR q room r) = j at hne hp ld
  have eo : toV (q := q) (ownR q (leftR q room r) j) = ownV invF (leftV bs (toV r)) j := by
    rw [toV_own okl.2, et]
  have oko := own_row (q_pos (q := q)) okl.1 j
  generalize ownR q (leftR q room r) j = f at hp eo oko
  have okL : RowsOk q n (f :: room.map fun b => lessR q b f j) := fun x hx => by
    rcases List.mem_cons.mp hx with rfl | hx
    · exact oko
    · obtain ⟨b, hb, rfl⟩ := List.mem_map.mp hx
      exact less_row q_pos (h.1 b hb).1 oko.1 j
  have okS : RowsOk q n rs := fun x hx => okL x (hp.mem_iff.mp hx)
  have one1 := one_ne (q := q) (q2 hF)
  -- pairs of the list
  have pairs : (f :: room.map fun b => lessR q b f j).map (fun r => (fpR r, toV (q := q) r)) = moreV invF bs (leftV bs (toV r)) j := by
    have leadM : ∀ c ∈ moreV invF bs (leftV bs (toV r)) j, Lead c.2 c.1 := by
      intro c hc
      have yb : ∀ b ∈ bs, leftV bs (toV r) b.1 = 0 := fun b hb => left_at pf _ hb
      have fd : ∀ i, ownV invF (leftV bs (toV r)) j i = invF (leftV bs (toV r) j) * leftV bs (toV r) i := fun i => rfl
      rcases List.mem_cons.mp hc with rfl | hc
      · refine ⟨?_, fun i hi => ?_⟩
        · show ownV invF (leftV bs (toV r)) j j ≠ 0
          rw [fd, invF_ok hF _ ld.1]
          exact one1
        · show ownV invF (leftV bs (toV r)) j i = 0
          rw [fd, ld.2 i hi]
          grind
      · obtain ⟨b, hb, rfl⟩ := List.mem_map.mp hc
        refine ⟨?_, fun i hi => ?_⟩
        · show b.2 b.1 - b.2 j * ownV invF (leftV bs (toV r)) j b.1 ≠ 0
          rw [fd, yb b hb, pf.one b hb]
          have : (1 : Fin q) - b.2 j * (invF (leftV bs (toV r) j) * 0) = 1 := by grind
          rw [this]
          exact one1
        · have hi : i < b.1 := hi
          show b.2 i - b.2 j * ownV invF (leftV bs (toV r)) j i = 0
          rw [fd, pf.low b hb i hi]
          rcases Nat.lt_or_ge i j with h' | h'
          · rw [ld.2 i h']
            grind
          · rw [pf.low b hb j (by omega)]
            grind
    have e2 : (f :: room.map fun b => lessR q b f j).map (toV (q := q)) = (moreV invF bs (leftV bs (toV r)) j).map (·.2) := by
      unfold moreV
      rw [List.map_cons, List.map_cons, eo, List.map_map, List.map_map]
      congr 1
      have e3 : bs.map ((fun b : Nat × Vec q => b.2) ∘ fun b => (b.1, lessV b.2 (ownV invF (leftV bs (toV r)) j) j)) = (bs.map (·.2)).map fun v => lessV v (ownV invF (leftV bs (toV r)) j) j := by
        rw [List.map_map]
        rfl
      rw [e3, e, List.map_map]
      apply List.map_congr_left
      intro x hx
      show toV (lessR q x f j) = lessV (toV x) (ownV invF (leftV bs (toV r)) j) j
      rw [toV_less (by rw [(h.1 x hx).1, oko.1]), eo]
    have key : ∀ (L : List (List Int)) (M : List (Nat × Vec q)), RowsOk q n L → (∀ c ∈ M, Lead c.2 c.1) → L.map (toV (q := q)) = M.map (·.2) → L.map (fun r => (fpR r, toV (q := q) r)) = M := by
      intro L
      induction L with
      | nil =>
        intro M _ _ e
        cases M with
        | nil => rfl
        | cons m M => cases e
      | cons x L ih =>
        intro M ok lm e
        cases M with
        | nil => cases e
        | cons m M =>
          rw [List.map_cons, List.map_cons] at e
          obtain ⟨a1, a2⟩ := List.cons.inj e
          rw [List.map_cons, ih M (fun y hy => ok y (List.mem_cons_of_mem _ hy)) (fun c hc => lm c (List.mem_cons_of_mem _ hc)) a2]
          congr 1
          have := lm m List.mem_cons_self
          rw [← a1] at this
          rw [fpR_lead (ok x List.mem_cons_self).2 this, a1]
    exact key _ _ okL leadM e2
  have pm : (rs.map fun r => (fpR r, toV (q := q) r)).Perm (moreV invF bs (leftV bs (toV r)) j) := by
    rw [← pairs]
    exact hp.map _
  have dist : (moreV invF bs (leftV bs (toV r)) j).Pairwise fun a b => a.1 ≠ b.1 := by
    unfold moreV
    rw [List.pairwise_cons]
    constructor
    · intro c hc
      obtain ⟨b, hb, rfl⟩ := List.mem_map.mp hc
      intro z
      have z : j = b.1 := z
      apply ld.1
      rw [z]
      exact left_at pf _ hb
    · rw [List.pairwise_map]
      exact pf.inc.imp fun {a b} hab => by
        show a.1 ≠ b.1
        omega
  have dist2 := perm_pw (fun a b hab => Ne.symm hab) pm dist
  rw [List.pairwise_map] at dist2
  have inc : (rs.map fun r => (fpR r, toV (q := q) r)).Pairwise fun a b => a.1 < b.1 := by
    rw [List.pairwise_map]
    refine List.Pairwise.imp_of_mem (fun {a b} ha hb hab => ?_) (dist2.and hs)
    obtain ⟨h1, h2⟩ := hab
    have h1 : fpR a ≠ fpR b := h1
    show fpR a < fpR b
    apply Classical.byContradiction
    intro hn
    have := code_lead (q_pos (q := q)) a b (by rw [(okS a ha).1, (okS b hb).1]) (okS a ha).2 (okS b hb).2 (by omega)
    omega
  obtain ⟨g1, g2⟩ := moreV_pf invF pf (invF_ok hF) (x := toV r) (fun i hi => toV_wid (hr r List.mem_cons_self).1 i hi) ld pm inc
  have em : (rs.map fun r => (fpR r, toV (q := q) r)).map (·.2) = rs.map (toV (q := q)) := by
    rw [List.map_map]
    rfl
  refine IsPF.plain hF ⟨okS, _, g1, em⟩ hall fun x => ?_
  have := g2 x
  rw [em, e] at this
  unfold Mk
  rw [List.map_append]
  exact this
/-- a made row makes nothing new -/
theorem IsPF.widen0 (hF : Fld (q : Int)) {n : Nat} {room : List (List Int)} (h : IsPF q n room) {r : List Int} (hr : RowsOk q n [r]) (hne : ∀ x ∈ leftR q room r, x = 0) : room = plainR q n (room ++ [r]) := by
  have hm := (h.left_zero hF hr).mp hne
  exact IsPF.plain hF h (rowsOk_app h.1 hr) fun x => (mk_app_of hm x).symm
theorem isPF_iff (hF : Fld (q : Int)) {n : Nat} {room : List (List Int)} : IsPF q n room ↔ RowsOk q n room ∧ plainR q n room = room :=
  ⟨fun h => ⟨h.1, (IsPF.plain hF h h.1 fun _ => Iff.rfl).symm⟩, fun h => by
    have := plainR_pf hF h.1
    rwa [h.2] at this⟩
end
/-- a plain form: rows that are their own plain form -/
def PFR (p : Int) (n : Nat) (room : List (List Int)) : Prop := RowsOk p n room ∧ plainR p n room = room
theorem to_q {p : Int} (hF : Fld p) : ∃ q : Nat, p = (q : Int) ∧ ∃ _ : NeZero q, Fld (q : Int) := by
  have h2 := hF.1
  obtain ⟨q, rfl⟩ := Int.eq_ofNat_of_zero_le (show 0 ≤ p by omega)
  exact ⟨q, rfl, ⟨by omega⟩, hF⟩
theorem PFR.of_plain {p : Int} (hF : Fld p) {n : Nat} {rows : List (List Int)} (h : RowsOk p n rows) : PFR p n (plainR p n rows) := by
  obtain ⟨q, rfl, _, hF⟩ := to_q hF
  exact (isPF_iff hF).mp (plainR_pf hF h)
theorem PFR.nil {p : Int} (hF : Fld p) (n : Nat) : PFR p n [] := by
  have := PFR.of_plain hF (n := n) (rowsOk_nil (p := p))
  have e : plainR p n [] = [] := by
    have h : ∀ k, (List.range k).foldl (stepR p) (([] : List (List Int)), ([] : List (List Int))) = ([], []) := by
      intro k
      induction k with
      | zero => rfl
      | succ k ih => rw [List.range_succ, List.foldl_append, ih]; rfl
    unfold plainR
    rw [h]
  exact ⟨rowsOk_nil, e⟩
theorem PFR.left_ok {p : Int} (hF : Fld p) {n : Nat} {room : List (List Int)} (h : PFR p n room) {r : List Int} (hr : RowsOk p n [r]) : RowsOk p n [leftR p room r] := by
  obtain ⟨q, rfl, _, hF⟩ := to_q hF
  obtain ⟨_, _, _, ok, _⟩ := ((isPF_iff hF).mpr h).left hF hr
  exact ok
theorem PFR.widen {p : Int} (hF : Fld p) {n : Nat} {room : List (List Int)} (h : PFR p n room) {r : List Int} (hr : RowsOk p n [r]) (hne : fpR (leftR p room r) < n) {rs : List (List Int)}
    (hp : rs.Perm (ownR p (leftR p room r) (fpR (leftR p room r)) :: room.map fun b => lessR p b (ownR p (leftR p room r) (fpR (leftR p room r))) (fpR (leftR p room r)))) (hs : rs.Pairwise fun a b => codeR p b ≤ codeR p a) : rs = plainR p n (room ++ [r]) := by
  obtain ⟨q, rfl, _, hF⟩ := to_q hF
  exact ((isPF_iff hF).mpr h).widen hF hr hne hp hs
theorem PFR.widen0 {p : Int} (hF : Fld p) {n : Nat} {room : List (List Int)} (h : PFR p n room) {r : List Int} (hr : RowsOk p n [r]) (hne : ∀ x ∈ leftR p room r, x = 0) : room = plainR p n (room ++ [r]) := by
  obtain ⟨q, rfl, _, hF⟩ := to_q hF
  exact ((isPF_iff hF).mpr h).widen0 hF hr hne
/-- noughts are left just where one row more makes nothing new -/
theorem PFR.left_has {p : Int} (hF : Fld p) {n : Nat} {room : List (List Int)} (h : PFR p n room) {r : List Int} (hr : RowsOk p n [r]) : (∀ x ∈ leftR p room r, x = 0) ↔ (plainR p n (room ++ [r])).length = (plainR p n room).length := by
  obtain ⟨q, rfl, _, hF⟩ := to_q hF
  rw [((isPF_iff hF).mpr h).left_zero hF hr]
  exact (plainR_has hF h.1 hr).symm
/-- the plain form of a plain form and more rows -/
theorem plainR_app {p : Int} (hF : Fld p) {n : Nat} {rows ts : List (List Int)} (h : RowsOk p n rows) (ht : RowsOk p n ts) : plainR p n (plainR p n rows ++ ts) = plainR p n (rows ++ ts) := by
  obtain ⟨q, rfl, _, hF⟩ := to_q hF
  refine plainR_congr hF (rowsOk_app (plainR_rows h) ht) (rowsOk_app h ht) fun x => ?_
  unfold Mk
  rw [List.map_append, List.map_append]
  constructor
  · intro hx
    refine spn_le (spn_sub _) (fun v hv => ?_) hx
    rcases List.mem_append.mp hv with hv | hv
    · exact spn_left ((plainR_mk hF h v).mp (spn_mem hv))
    · exact spn_right (spn_mem hv)
  · intro hx
    refine spn_le (spn_sub _) (fun v hv => ?_) hx
    rcases List.mem_append.mp hv with hv | hv
    · exact spn_left ((plainR_mk hF h v).mpr (spn_mem hv))
    · exact spn_right (spn_mem hv)
theorem plainR_lenle {p : Int} (hF : Fld p) {n : Nat} {rows : List (List Int)} (h : RowsOk p n rows) : (plainR p n rows).length ≤ n := by
  obtain ⟨q, rfl, _, hF⟩ := to_q hF
  obtain ⟨_, bs, pf, e⟩ := plainR_pf hF h
  have e1 := congrArg List.length e
  rw [List.length_map, List.length_map] at e1
  rw [← e1]
  have h1 : (bs.map (·.1)).Pairwise (· < ·) := List.pairwise_map.mpr pf.inc
  have h2 := (sorted_len h1 (List.pairwise_lt_range (n := n)) fun x hx => by
    obtain ⟨b, hb, rfl⟩ := List.mem_map.mp hx
    exact List.mem_range.mpr (pf.lt b hb)).1
  rw [List.length_map, List.length_range] at h2
  exact h2
end OC

set_option Elab.async false
set_option linter.all false
set_option maxRecDepth 100000
/-! what laws share of rows as ints and as data -/
namespace OC
open PySem PySem.Spec PyProof.Rows L2
theorem units65 {k : Nat} {A : Around} (r : Room k A) : A.units + 65 < cLine := by have := r.un; omega
def plusR (p : Int) (x y : List Int) (m : Int) : List Int := List.zipWith (fun a b => (a + m * b) % p) x y
theorem plus_len {p : Int} {x y : List Int} {m : Int} (h : x.length = y.length) : (plusR p x y m).length = x.length := by
  unfold plusR
  rw [List.length_zipWith]
  omega
theorem plus_ok {p : Int} {x y : List Int} {m : Int} (hp : 0 < p) : RowOk p (plusR p x y m) := by
  intro z hz
  unfold plusR at hz
  rw [List.mem_iff_getElem?] at hz
  obtain ⟨i, hi⟩ := hz
  rw [List.getElem?_zipWith] at hi
  split at hi
  · cases Option.some.inj hi
    exact ⟨Int.emod_nonneg _ (by omega), Int.emod_lt_of_pos _ hp⟩
  · cases hi
def addR (p : Int) (x y : List Int) : List Int := List.zipWith (fun a b => (a + b) % p) x y
def timesR (p a : Int) (x : List Int) : List Int := x.map fun r => a * r % p
def worthR (p : Int) (x y : List Int) : Int := (List.zipWith (fun a b => a * b) x y).sum % p
def madeR (p : Int) (z : List Int) (l : List (List Int × Int)) : List Int := l.foldl (fun acc rf => plusR p acc rf.1 rf.2) z
theorem plus1 (p : Int) : ∀ x y : List Int, plusR p x y 1 = addR p x y
  | [], _ => rfl
  | _ :: _, [] => rfl
  | a :: x, b :: y => by
    have ih := plus1 p x y
    unfold plusR addR at ih ⊢
    rw [List.zipWith_cons_cons, List.zipWith_cons_cons, ih, Int.one_mul]
theorem plus_times (p m : Int) : ∀ x : List Int, plusR p x x (m - 1) = timesR p m x
  | [] => rfl
  | a :: x => by
    have ih := plus_times p m x
    unfold plusR timesR at ih ⊢
    rw [List.zipWith_cons_cons, ih, List.map_cons, show a + (m - 1) * a = m * a by grind]
theorem add_times (p f : Int) : ∀ x y : List Int, addR p x (timesR p f y) = plusR p x y f
  | [], _ => rfl
  | _ :: _, [] => rfl
  | a :: x, b :: y => by
    have ih := add_times p f x y
    unfold plusR addR timesR at ih ⊢
    rw [List.map_cons, List.zipWith_cons_cons, List.zipWith_cons_cons, ih, Int.add_emod_emod]
theorem worth_add (p : Int) : ∀ x y z : List Int, x.length = y.length → worthR p (addR p x y) z = (worthR p x z + worthR p y z) % p
  | [], [], _, _ => by
    unfold worthR addR
    simp
  | [], _ :: _, _, e => by cases e
  | _ :: _, [], _, e => by cases e
  | a :: x, b :: y, [], _ => by
    unfold worthR addR
    simp
  | a :: x, b :: y, c :: z, e => by
    have ih := worth_add p x y z (Nat.succ.inj e)
    unfold worthR addR at ih ⊢
    rw [List.zipWith_cons_cons, List.zipWith_cons_cons, List.zipWith_cons_cons, List.zipWith_cons_cons, List.sum_cons, List.sum_cons, List.sum_cons]
    rw [Int.emod_add_emod, Int.add_emod_emod] at ih
    rw [Int.emod_add_emod, Int.add_emod_emod]
    rw [Int.add_emod, ih, show (a + b) % p * c % p = (a + b) * c % p by rw [Int.mul_emod, Int.emod_emod, ← Int.mul_emod], ← Int.add_emod]
    congr 1
    grind
theorem worth_times (p m : Int) : ∀ x z : List Int, worthR p (timesR p m x) z = m * worthR p x z % p
  | [], _ => by
    unfold worthR timesR
    simp
  | _ :: _, [] => by
    unfold worthR timesR
    simp
  | a :: x, c :: z => by
    have ih := worth_times p m x z
    unfold worthR timesR at ih ⊢
    rw [List.map_cons, List.zipWith_cons_cons, List.zipWith_cons_cons, List.sum_cons, List.sum_cons]
    rw [Int.add_emod, ih, Int.mul_emod, Int.emod_emod, ← Int.mul_emod, Int.add_emod_emod, Int.emod_add_emod]
    rw [show m * ((a * c + (List.zipWith (fun a b => a * b) x z).sum) % p) % p = m * (a * c + (List.zipWith (fun a b => a * b) x z).sum) % p by rw [Int.mul_emod, Int.emod_emod, ← Int.mul_emod]]
    rw [Int.add_emod, show m * ((List.zipWith (fun a b => a * b) x z).sum % p) % p = m * (List.zipWith (fun a b => a * b) x z).sum % p by rw [Int.mul_emod, Int.emod_emod, ← Int.mul_emod], ← Int.add_emod]
    congr 1
    grind
theorem add_len {p : Int} {x y : List Int} (h : x.length = y.length) : (addR p x y).length = x.length := by
  unfold addR
  rw [List.length_zipWith]
  omega
theorem times_len {p m : Int} {x : List Int} : (timesR p m x).length = x.length := by
  unfold timesR
  rw [List.length_map]
theorem add_ok {p : Int} {x y : List Int} (hp : 0 < p) : RowOk p (addR p x y) := by
  rw [← plus1]
  exact plus_ok hp
theorem times_ok {p m : Int} {x : List Int} (hp : 0 < p) : RowOk p (timesR p m x) := by
  rw [← plus_times]
  exact plus_ok hp
theorem worth_bd {p : Int} {x y : List Int} (hp : 0 < p) : 0 ≤ worthR p x y ∧ worthR p x y < p := ⟨Int.emod_nonneg _ (by omega), Int.emod_lt_of_pos _ hp⟩
theorem made_len (p : Int) (n : Nat) : ∀ (l : List (List Int × Int)) (z : List Int), z.length = n → (∀ x ∈ l, x.1.length = n) → (madeR p z l).length = n
  | [], z, hz, _ => hz
  | x :: l, z, hz, h => by
    refine made_len p n l _ ?_ fun y hy => h y (List.mem_cons_of_mem _ hy)
    rw [plus_len (by rw [hz, h x List.mem_cons_self])]
    exact hz
theorem made_ok {p : Int} (hp : 0 < p) : ∀ (l : List (List Int × Int)) (z : List Int), RowOk p z → RowOk p (madeR p z l)
  | [], z, hz => hz
  | x :: l, z, hz => made_ok hp l _ (plus_ok hp)
theorem made_take {p : Int} {z : List Int} {l : List (List Int × Int)} {i : Nat} {x : List Int × Int} (h : l[i]? = some x) : madeR p z (l.take (i + 1)) = plusR p (madeR p z (l.take i)) x.1 x.2 := by
  unfold madeR
  rw [List.take_add_one, h, List.foldl_append]
  rfl
theorem nought_ok {p : Int} (hp : 0 < p) (n : Nat) : RowOk p (List.replicate n 0) := fun x hx => by
  have := List.eq_of_mem_replicate hx
  omega
theorem worth_take (p : Int) (x y : List Int) (i : Nat) {u v : Int} (h1 : x[i]? = some u) (h2 : y[i]? = some v) : (((List.zipWith (fun a b => a * b) x y).take i).sum % p + u * v) % p = ((List.zipWith (fun a b => a * b) x y).take (i + 1)).sum % p := by
  rw [sum_take (z := u * v) (by rw [List.getElem?_zipWith, h1, h2]), Int.emod_add_emod]
def PR8 : List Int := [5, 7, 11, 101, 5, 13, 97, 23]
theorem pr8_bd : ∀ p ∈ PR8, 5 ≤ p ∧ p ≤ 101 := by decide +kernel
def lstD (r : List Int) : PyData := .list (r.map PyData.int)
def intsOf : PyData → List Int
  | .list ds => ds.map fun d => match d with | .int i => i | _ => 0
  | .tuple ds => ds.map fun d => match d with | .int i => i | _ => 0
  | _ => []
theorem ints_lst (r : List Int) : intsOf (lstD r) = r := by
  show (r.map PyData.int).map _ = r
  rw [List.map_map]
  exact List.map_id r
theorem ints_row (r : List Int) : intsOf (rowD r) = r := by
  show (r.map PyData.int).map _ = r
  rw [List.map_map]
  exact List.map_id r
def nzAt (k : Nat) (d : PyData) : Bool := decide ((intsOf d).getD k 0 ≠ 0)
theorem rep_lst_ints {K : PySem.W.Frag} {H : Hp} {bad : Addr → Prop} : ∀ {xs : List V} {r : List Int}, RepAll K H bad xs (r.map PyData.int) → xs = r.map V.int
  | _, [], h => by cases h; rfl
  | _, n :: r, h => by
    cases h with
    | cons h1 h2 =>
      cases h1
      rw [rep_lst_ints h2]
      rfl
theorem rep_lst {K : PySem.W.Frag} {H : Hp} {bad : Addr → Prop} {v : V} {r : List Int} (h : Rep K H bad v (lstD r)) : ∃ l, v = .ref l ∧ H l = some (.lst (r.map V.int)) := by
  unfold lstD at h
  cases h with
  | lst hs hb ha => exact ⟨_, rfl, (rep_lst_ints ha) ▸ hs⟩
theorem rep_row {K : PySem.W.Frag} {H : Hp} {bad : Addr → Prop} {v : V} {r : List Int} (h : Rep K H bad v (rowD r)) : ∃ l, v = .ref l ∧ SqT K H l (r.map V.int) := by
  unfold rowD at h
  cases h with
  | tup hs ha => exact ⟨_, rfl, (rep_lst_ints ha) ▸ hs⟩
theorem rep_rows {K : PySem.W.Frag} {H : Hp} {bad : Addr → Prop} : ∀ {ws : List V} {rs : List (List Int)}, DpAll K H ws (rs.map rowD) → RepAll K H bad ws (rs.map rowD)
  | _, [], h => by cases h; exact .nil
  | _, r :: rs, h => by
    cases h with
    | cons h1 h2 =>
      obtain ⟨a, rfl, ha⟩ := dp_row h1
      exact .cons (row_rep ha) (rep_rows h2)
theorem rows_rep {K : PySem.W.Frag} {H : Hp} {bad : Addr → Prop} : ∀ {ws : List V} {rs : List (List Int)}, RepAll K H bad ws (rs.map rowD) → DpAll K H ws (rs.map rowD)
  | _, [], h => by cases h; exact .nil
  | _, r :: rs, h => by
    cases h with
    | cons h1 h2 =>
      obtain ⟨a, rfl, ha⟩ := rep_row h1
      exact .cons (row_dp ha) (rows_rep h2)
theorem foldl_succ {α : Type} (f : α → Nat → α) (a : α) (k : Nat) : (List.range (k + 1)).foldl f a = f ((List.range k).foldl f a) k := by
  rw [List.range_succ, List.foldl_append]
  rfl
theorem dpAll_take {K : PySem.W.Frag} {H : Hp} : ∀ {xs : List V} {ds : List PyData} (k : Nat), DpAll K H xs ds → DpAll K H (xs.take k) (ds.take k)
  | _, _, 0, _ => by rw [List.take_zero, List.take_zero]; exact .nil
  | _, _, _ + 1, .nil => .nil
  | _, _, k + 1, .cons h1 h2 => .cons h1 (dpAll_take k h2)
def numsV (ks : List Nat) : List V := ks.map fun (k : Nat) => V.int (k : Int)
theorem plainR_nil (p : Int) (n : Nat) : plainR p n [] = [] := by
  have h : ∀ k, (List.range k).foldl (stepR p) (([] : List (List Int)), ([] : List (List Int))) = ([], []) := by
    intro k
    induction k with
    | zero => rfl
    | succ k ih => rw [foldl_succ, ih]; rfl
  unfold plainR
  rw [h]
theorem need_take (p : Int) (n : Nat) (rs : List (List Int)) (k : Nat) (h : k < rs.length) : needR p n (rs.take (k + 1)) = needR p n (rs.take k) ++ (if (plainR p n (rs.take k)).length < (plainR p n (rs.take (k + 1))).length then [k] else []) := by
  have e : rs.take (k + 1) = rs.take k ++ [rs[k]] := by rw [List.take_succ, List.getElem?_eq_getElem h]; rfl
  rw [e, needR_snoc, List.length_take, Nat.min_eq_left (by omega)]
def hasR (p : Int) (n : Nat) (rs : List (List Int)) (r : List Int) : Bool := decide ((plainR p n (rs ++ [r])).length = (plainR p n rs).length)
def fldB (p : Nat) : Bool := decide (2 ≤ p) && (List.range p).all fun a => a == 0 || (List.range p).any fun b => a * b % p == 1
theorem fld_of {p : Nat} (h : fldB p = true) : Fld (p : Int) := by
  unfold fldB at h
  rw [Bool.and_eq_true] at h
  obtain ⟨h2, h⟩ := h
  have h2 := of_decide_eq_true h2
  refine ⟨by omega, fun a a1 ap => ?_⟩
  have ha := List.all_eq_true.mp h a.toNat (List.mem_range.mpr (by omega))
  rw [Bool.or_eq_true] at ha
  rcases ha with ha | ha
  · have := eq_of_beq ha
    omega
  · obtain ⟨b, hb, e⟩ := List.any_eq_true.mp ha
    have e := eq_of_beq e
    have hb := List.mem_range.mp hb
    refine ⟨(b : Int), ?_, by omega, ?_⟩
    · cases b with
      | zero => rw [Nat.mul_zero, Nat.zero_mod] at e; cases e
      | succ b => omega
    · have e2 : ((a.toNat * b % p : Nat) : Int) = 1 := by rw [e]; rfl
      rw [Int.natCast_emod, Int.natCast_mul, Int.toNat_of_nonneg (by omega)] at e2
      exact e2
theorem pr8_fld : ∀ p ∈ PR8, Fld p := by
  intro p hp
  have h : ∀ p ∈ PR8, fldB p.toNat = true := by decide +kernel
  have b := pr8_bd p hp
  have := fld_of (h p hp)
  rwa [Int.toNat_of_nonneg (by omega)] at this
def nI (ks : List Nat) : List Int := ks.map fun (k : Nat) => (k : Int)
theorem numsV_eq (ks : List Nat) : numsV ks = (nI ks).map V.int := by
  unfold numsV nI
  rw [List.map_map]
  rfl
theorem rgV_eq (n : Nat) : rgV 0 (n : Int) = numsV (List.range n) := by
  unfold rgV numsV
  rw [show ((n : Int) - 0).toNat = n from by omega]
  apply List.map_congr_left
  intro k _
  rw [Int.zero_add]
theorem lv_row (r : List Int) (h : r.length ≤ 1000) (L : PyData → Prop) : Lv (Lv L) (rowD r) := by
  refine .inr ⟨_, rfl, by rw [List.length_map]; exact h, fun x hx => ?_⟩
  obtain ⟨i, _, rfl⟩ := List.mem_map.mp hx
  exact .inl True.intro
theorem rowsOk_of {p : Int} {n : Nat} {rs : List (List Int)} (h : ∀ r ∈ rs, (r.length : Int) = (n : Int) ∧ RowOk p r) : RowsOk p n rs := fun r hr => ⟨by have := (h r hr).1; omega, (h r hr).2⟩
theorem pu_rows {p : Int} {n : Nat} {rs : List (List Int)} (hp : p ≤ 1000) (hn : n ≤ 30) (hl : rs.length ≤ 30) (h : RowsOk p n rs) : Pu 2 (.tuple (rs.map rowD)) := by
  refine ⟨_, rfl, by rw [List.length_map]; exact hl, fun x hx => ?_⟩
  obtain ⟨r, hr, rfl⟩ := List.mem_map.mp hx
  refine ⟨_, rfl, by rw [List.length_map, (h r hr).1]; exact hn, fun y hy => ?_⟩
  obtain ⟨i, hi, rfl⟩ := List.mem_map.mp hy
  have := (h r hr).2 i hi
  exact ⟨i, rfl, by omega, by omega⟩
theorem rows_fit {p : Int} {n : Nat} {rs : List (List Int)} (hp : p ≤ 1000) (hn : n ≤ 30) (hl : rs.length ≤ 30) (h : RowsOk p n rs) : Fit (.tuple (rs.map rowD)) := (pu_fit 2 _ (pu_rows hp hn hl h)).fit (by decide) (by decide)
theorem some_facts {p : Int} (hF : Fld p) {n : Nat} {rs : List (List Int)} (ok : RowsOk p n rs) : plainR p n (someR p n rs) = plainR p n rs ∧ (needR p n rs).length = (plainR p n rs).length ∧ needR p n (someR p n rs) = List.range (someR p n rs).length := by
  have h2 := hF.1
  obtain ⟨q, rfl⟩ := Int.eq_ofNat_of_zero_le (show 0 ≤ p by omega)
  haveI : NeZero q := ⟨by omega⟩
  obtain ⟨h1, h3, h4⟩ := someR_all hF rs ok
  exact ⟨plainR_congr hF (someR_ok ok) ok h1, by rw [needR_len]; exact h3, h4⟩
theorem eqvAll_self : ∀ ds : List PyData, (∀ d ∈ ds, PyData.eqv d d = true) → PyData.eqvAll ds ds = true
  | [], _ => by simp [PyData.eqvAll]
  | d :: ds, h => by
    rw [PyData.eqvAll, h d List.mem_cons_self, eqvAll_self ds fun x hx => h x (List.mem_cons_of_mem _ hx)]
    rfl
theorem eqv_row (r : List Int) : PyData.eqv (rowD r) (rowD r) = true := by
  unfold rowD
  rw [PyData.eqv]
  refine eqvAll_self _ fun d hd => ?_
  obtain ⟨i, _, rfl⟩ := List.mem_map.mp hd
  simp [PyData.eqv]
theorem eqv_rows (rs : List (List Int)) : PyData.eqv (.tuple (rs.map rowD)) (.tuple (rs.map rowD)) = true := by
  rw [PyData.eqv]
  refine eqvAll_self _ fun d hd => ?_
  obtain ⟨r, _, rfl⟩ := List.mem_map.mp hd
  exact eqv_row r
def pick (rs : List (List Int)) (d : PyData) : PyData := match d with | .int i => rowD (rs.getD i.toNat []) | _ => .none
theorem rep_nums {H : Hp} {bad : Addr → Prop} {K : PySem.W.Frag} (ks : List Nat) : RepAll K H bad (numsV ks) ((nI ks).map PyData.int) := by
  rw [numsV_eq]
  exact repAll_ints _
end OC

set_option Elab.async false
set_option linter.all false
set_option maxRecDepth 100000
/-! what the promises of the program's own defs rest on -/
namespace OC
open PySem PySem.Spec PyProof.Rows L2 Lin
theorem less_eq {p : Int} : ∀ (c : Int) (x y : List Int), addR p x (timesR p (p - c) y) = List.zipWith (fun r m => (r - c * m) % p) x y
  | _, [], _ => rfl
  | _, _ :: _, [] => rfl
  | c, a :: x, b :: y => by
    have ih := less_eq (p := p) c x y
    unfold addR timesR at ih ⊢
    rw [List.map_cons, List.zipWith_cons_cons, List.zipWith_cons_cons, ih, Int.add_emod_emod]
    congr 1
    rw [show a + (p - c) * b = (a - c * b) + p * b by grind, Int.add_mul_emod_self_left]
theorem less_zero {p : Int} : ∀ (x y : List Int), x.length = y.length → RowOk p x → List.zipWith (fun r m => (r - 0 * m) % p) x y = x
  | [], _, _, _ => rfl
  | _ :: _, [], e, _ => by cases e
  | a :: x, b :: y, e, h => by
    rw [List.zipWith_cons_cons, less_zero x y (Nat.succ.inj e) fun z hz => h z (List.mem_cons_of_mem _ hz)]
    have := h a List.mem_cons_self
    rw [Int.zero_mul, Int.sub_zero, Int.emod_eq_of_lt this.1 this.2]
theorem ctr_uniq {p a b : Int} (hF : Fld p) (h0 : 1 ≤ a) (h1 : a < p) (b0 : 1 ≤ b) (b1 : b < p) (e : a * b % p = 1) : b = ctr p a := by
  obtain ⟨c0, c1, c2⟩ := ctr_ok hF h0 h1
  generalize ctr p a = c at c0 c1 c2
  have h2 := hF.1
  have e1 : b * (a * c) % p = b := by
    rw [Int.mul_emod, c2, Int.mul_one, Int.emod_emod]
    exact Int.emod_eq_of_lt (by omega) b1
  have e2 : b * (a * c) % p = c := by
    rw [show b * (a * c) = (a * b) * c by grind, Int.mul_emod, e, Int.one_mul, Int.emod_emod]
    exact Int.emod_eq_of_lt c0 c1
  omega
/-- rows in a tuple -/
def RowsAt (K : PySem.W.Frag) (H : Hp) (a : Addr) (rs : List (List Int)) : Prop := ∃ ws, SqT K H a ws ∧ DpAll K H ws (rs.map rowD)
theorem RowsAt.same {K : PySem.W.Frag} {H H' : Hp} {a : Addr} {rs : List (List Int)} (s : Same H H') (h : RowsAt K H a rs) : RowsAt K H' a rs := by
  obtain ⟨ws, h1, h2⟩ := h
  exact ⟨ws, Same.tup s h1, dpAll_same s _ _ h2⟩
theorem rows_len {K : PySem.W.Frag} {H : Hp} {ws : List V} {rs : List (List Int)} (h : DpAll K H ws (rs.map rowD)) : ws.length = rs.length := by
  have := dpAll_len h
  rwa [List.length_map] at this
theorem PFR.fp_lt {p : Int} (hF : Fld p) {n : Nat} {room : List (List Int)} (h : PFR p n room) : ∀ b ∈ room, fpR b < n := by
  obtain ⟨q, rfl, _, hF⟩ := to_q hF
  obtain ⟨ok, bs, pf, e⟩ := (isPF_iff hF).mpr h
  intro b hb
  have : toV (q := q) b ∈ bs.map (·.2) := by rw [e]; exact List.mem_map_of_mem hb
  obtain ⟨c, hc, ec⟩ := List.mem_map.mp this
  have := pf.leads (one_ne (q2 hF)) hc
  rw [ec] at this
  rw [fpR_lead (ok b hb).2 this]
  exact pf.lt c hc
/-- a room of all rows gets no wider -/
theorem plain_full {p : Int} (hF : Fld p) {n : Nat} {rows ts : List (List Int)} (h : RowsOk p n rows) (ht : RowsOk p n ts) (hl : (plainR p n rows).length = n) : plainR p n (rows ++ ts) = plainR p n rows := by
  have hle := plainR_lenle hF (rowsOk_app h ht)
  obtain ⟨q, rfl, _, hF⟩ := to_q hF
  obtain ⟨_, bs, pb, eb⟩ := plainR_pf hF h
  obtain ⟨_, cs, pc, ec⟩ := plainR_pf hF (rowsOk_app h ht)
  have lb := congrArg List.length eb
  have lc := congrArg List.length ec
  rw [List.length_map, List.length_map] at lb lc
  have sub : ∀ x, Spn (bs.map (·.2)) x → Spn (cs.map (·.2)) x := fun x hx => by
    rw [eb] at hx
    rw [ec]
    refine (plainR_mk hF (rowsOk_app h ht) x).mpr ?_
    unfold Mk
    rw [List.map_append]
    exact spn_left ((plainR_mk hF h x).mp hx)
  refine ((plainR_pf hF (rowsOk_app h ht)).uniq hF (plainR_pf hF h) fun x => ?_)
  unfold Mk
  rw [← eb, ← ec]
  exact ⟨fun hx => pb.same_of_len pc (one_ne (q2 hF)) sub (by omega) hx, sub x⟩
theorem dpAll_perm {K : PySem.W.Frag} {H : Hp} {ys xs : List V} (hp : ys.Perm xs) : ∀ {rs : List (List Int)}, DpAll K H xs (rs.map rowD) → ∃ rs' : List (List Int), rs'.Perm rs ∧ DpAll K H ys (rs'.map rowD) := by
  induction hp with
  | nil => exact fun {rs} h => ⟨rs, List.Perm.refl _, h⟩
  | cons x _ ih =>
    intro rs h
    cases rs with
    | nil => cases h
    | cons r rs =>
      cases h with
      | cons h1 h2 =>
        obtain ⟨rs', p, d⟩ := ih h2
        exact ⟨r :: rs', p.cons r, .cons h1 d⟩
  | swap x y l =>
    intro rs h
    match rs, h with
    | [], h => cases h
    | [r], h =>
      cases h with
      | cons h1 h2 => cases h2
    | r1 :: r2 :: rs, h =>
      cases h with
      | cons h1 h2 =>
        cases h2 with
        | cons h2 h3 => exact ⟨r2 :: r1 :: rs, List.Perm.swap _ _ _, .cons h2 (.cons h1 h3)⟩
  | trans _ _ ih1 ih2 =>
    intro rs h
    obtain ⟨r1, p1, d1⟩ := ih2 h
    obtain ⟨r2, p2, d2⟩ := ih1 d1
    exact ⟨r2, p2.trans p1, d2⟩
theorem code_eq (B : Int) : ∀ r : List Int, TS.code B r = codeR B r
  | [] => rfl
  | d :: r => by
    show d * B ^ r.length + TS.code B r = d * B ^ r.length + codeR B r
    rw [code_eq B r]
theorem dpAll_pw {K : PySem.W.Frag} {H : Hp} {B : Int} : ∀ {ys : List V} {rs : List (List Int)}, DpAll K H ys (rs.map rowD) → ys.Pairwise (fun x y => ∀ n m, TupI K H x n → TupI K H y m → TS.code B m ≤ TS.code B n) → rs.Pairwise fun a b => codeR B b ≤ codeR B a
  | _, [], _, _ => List.Pairwise.nil
  | _, r :: rs, h, hp => by
    cases h with
    | @cons y ys _ _ h1 h2 =>
      obtain ⟨p1, p2⟩ := List.pairwise_cons.mp hp
      refine List.pairwise_cons.mpr ⟨fun b hb => ?_, dpAll_pw h2 p2⟩
      obtain ⟨i, hi, rfl⟩ := List.getElem_of_mem hb
      have hi' : i < ys.length := by rw [rows_len h2]; exact hi
      obtain ⟨c, r2, ec, gr, _, hc⟩ := dpAll_row h2 (List.getElem?_eq_getElem hi')
      rw [List.getElem?_eq_getElem hi] at gr
      have er : rs[i] = r2 := Option.some.inj gr
      obtain ⟨a, ea, ha⟩ := dp_row h1
      have := p1 ys[i] (List.getElem_mem hi') r rs[i] ⟨a, ea, ha⟩ ⟨c, ec, by rw [er]; exact hc⟩
      rwa [code_eq, code_eq] at this
theorem hasR_iff {p : Int} (hF : Fld p) {n : Nat} {room : List (List Int)} (h : PFR p n room) {r : List Int} (hr : RowsOk p n [r]) : (leftR p room r).all (fun x => decide (x = 0)) = hasR p n room r := by
  have e := PFR.left_has hF h hr
  unfold hasR
  by_cases c : (plainR p n (room ++ [r])).length = (plainR p n room).length
  · rw [decide_eq_true c, List.all_eq_true]
    exact fun x hx => decide_eq_true (e.mpr c x hx)
  · rw [decide_eq_false c, Bool.eq_false_iff]
    intro z
    exact c (e.mp fun x hx => of_decide_eq_true (List.all_eq_true.mp z x hx))
theorem rowOk_getD {p : Int} {r : List Int} {n : Nat} (h : r.length = n ∧ ∀ x ∈ r, 0 ≤ x ∧ x < p) {j : Nat} (hj : j < n) : 0 ≤ r.getD j 0 ∧ r.getD j 0 < p := by
  rw [gd_lt (by omega)]
  exact h.2 _ (List.getElem_mem _)
theorem at_row {r : List Int} {j : Nat} (h : j < r.length) : atI (r.map V.int) (j : Int) = some (.int (r.getD j 0)) := at_of (j := j) rfl (by rw [List.getElem?_map, List.getElem?_eq_getElem h, gd_lt h]; rfl)
theorem rowsOk_one {p : Int} {n : Nat} {r : List Int} (h : r.length = n ∧ ∀ x ∈ r, 0 ≤ x ∧ x < p) : RowsOk p n [r] := fun x hx => by
  have : x = r := by simpa using hx
  rw [this]
  exact h
theorem leftR_take {p : Int} {room : List (List Int)} {r : List Int} {i : Nat} {b : List Int} (h : room[i]? = some b) : leftR p (room.take (i + 1)) r = lessR p (leftR p (room.take i) r) b (fpR b) := by
  unfold leftR
  rw [List.take_add_one, h, List.foldl_append]
  rfl
theorem leftR_ok {p : Int} (hp : 0 < p) {n : Nat} : ∀ (room : List (List Int)) (r : List Int), RowsOk p n room → RowsOk p n [r] → RowsOk p n [leftR p room r]
  | [], _, _, h => h
  | b :: room, r, h1, h2 => leftR_ok hp room _ (fun x hx => h1 x (List.mem_cons_of_mem _ hx)) (rowsOk_one (less_row hp (h2 r List.mem_cons_self).1 (h1 b List.mem_cons_self).1 _))
end OC

set_option Elab.async false
set_option linter.all false
set_option maxRecDepth 100000
/-! rooms as data; comprehensions of plain values -/
namespace OC
open PySem PySem.Spec PyProof.Rows L2 Lin
abbrev Bad (d c : Addr) : Addr → Prop := fun a => a = d ∨ a = c
theorem Deck.fresh {H : Hp} {d c p : Addr} {t : Int} (D : Deck H d c t) (n : H p = none) : ¬ Bad d c p := by
  obtain ⟨hd, ⟨cells, h1, h2⟩, _, t0⟩ := D
  rintro (z | z)
  · subst z; rw [hd] at n; cases n
  · subst z; rw [h1] at n; cases n
def L0 : PyData → Prop := fun _ => False
theorem Stays.kept2 {bad : Addr → Prop} {d c : Addr} {t : Int} {H H' : Hp} (D : Deck H d c t) (k : Kept d c H H') (bd : bad d) (bc : bad c) : Stays bad H H' := by
  have s := Stays.kept D k
  refine ⟨s.t, s.d, fun a xs h n => k a _ h (fun z => n (by rw [z]; exact bd)) (fun z => n (by rw [z]; exact bc))⟩
theorem Deck.mut {H : Hp} {d c B : Addr} {t : Int} {o : HO} (D : Deck H d c t) (b : ¬ Bad d c B) : Deck (upd H B o) d c t := by
  obtain ⟨hd, ⟨cells, h1, h2⟩, n, t0⟩ := D
  exact ⟨by rw [upd_ne (fun z => b (.inl z.symm))]; exact hd, ⟨cells, by rw [upd_ne (fun z => b (.inr z.symm))]; exact h1, h2⟩, n, t0⟩
theorem Kept.mut {H H' : Hp} {d c B : Addr} {o : HO} (k : Kept d c H H') (n : H B = none) : Kept d c H (upd H' B o) := fun b x h n1 n2 => by
  rw [upd_ne (ne_of_none h n)]
  exact k b x h n1 n2
/-- what is new is none of the deck's lists -/
theorem rep_new {K : PySem.W.Frag} {H H' : Hp} {d c : Addr} {t : Int} {v : V} {e : PyData} (D : Deck H d c t) (r : Rep K H' (fun a => H a ≠ none) v e) : Rep K H' (Bad d c) v e := by
  refine rep_weak (fun b hb => ?_) _ _ r
  rcases hb with z | z
  · subst z; rw [D.hd]; exact fun h => nomatch h
  · obtain ⟨cells, h1, _⟩ := D.hc
    subst z; rw [h1]; exact fun h => nomatch h
theorem repAll_nb {K : PySem.W.Frag} {H : Hp} {bad : Addr → Prop} {vs : List V} {es : List PyData} (h : RepAll K H bad vs es) : RepAll K H NB vs es := repAll_weak (fun _ h => h.elim) _ _ h
theorem Kept.rows {K : PySem.W.Frag} {H H' : Hp} {d c : Addr} {t : Int} {a : Addr} {rs : List (List Int)} (D : Deck H d c t) (k : Kept d c H H') (h : RowsAt K H a rs) : RowsAt K H' a rs := by
  obtain ⟨ws, h1, h2⟩ := h
  exact ⟨ws, Kept.tup D k h1, dpAll_tk (Tk.kept D k) _ _ (noL_rows rs) h2⟩
theorem RowsAt.rep {K : PySem.W.Frag} {H : Hp} {bad : Addr → Prop} {a : Addr} {rs : List (List Int)} (h : RowsAt K H a rs) : Rep K H bad (.ref a) (.tuple (rs.map rowD)) := by
  obtain ⟨ws, h1, h2⟩ := h
  exact .tup h1 (rep_rows h2)
def lenOk2 : PyData → Prop
  | .tuple ds => ds.length ≤ 100 ∧ ∀ x ∈ ds, lenOk x
  | _ => True
/-- a thing whose length and repr are within bounds -/
structure TOk (e : PyData) : Prop where
  l : lenOk2 e
  f : Fit e
/-- [t for x in xs], t no object -/
theorem lc_valR {K : PySem.W.Frag} {J : It} {G : Hp → Prop} {vs : List V} {ds : List PyData} {σ : L2.St} {H : Hp} {Qd : Addr → Hp → Prop} {i : Nat} {sl : List Nat} {te : TE} (f : PyData → V)
    (w : Walk J vs.length G (YAt vs)) (hG : ∀ H', Same H H' → G H') (hD : RepAll K H NB vs ds) (hz : vs.length ≤ 1000) (hw : ∀ x : Option V, wipe ((wipe σ sl).set i x) sl = wipe σ sl)
    (hte : ∀ (v : V) (d : PyData) (H' : Hp) (Q' : VK), d ∈ ds → Rep K H' NB v d → Same H H' → (∀ H'', Same H' H'' → Q' (f d) H'') → te ((wipe σ sl).set i (some v)) H' Q')
    (hd : ∀ D H', Same H H' → H D = none → H' D = some (.lst (ds.map f)) → Qd D H') : LcGoal J (gName i) tYes te sl σ H Qd := by
  intro D nD
  have lv := repAll_len hD
  refine lc_it w (fun k H' => Same H H' ∧ H' D = some (.lst ((ds.take k).map f))) ⟨same_mut (Same.refl H) nD, upd_same⟩ (fun k H' _ hP => hG H' hP.1) (fun k x H1 H2 hk hP hY => ?_) (fun H' hP => ?_)
  · obtain ⟨rfl, e1⟩ := hY
    obtain ⟨sm, eD⟩ := hP
    obtain ⟨d, g, md, rx⟩ := repAll_get hD e1
    refine ⟨hw _, hte x d _ _ md (rep_stays (Stays.of sm) _ _ rx) sm fun H'' s2 => ?_⟩
    refine ⟨_, s2 _ _ eD, ?_, same_mut (sm.trans s2) nD, ?_⟩
    · rw [List.length_map, List.length_take]
      exact small1000 (by omega)
    · rw [upd_same, List.take_add_one, g, List.map_append]
      rfl
  · obtain ⟨sm, eD⟩ := hP
    rw [List.take_of_length_le (by omega)] at eD
    exact hd D H' sm nD eD
/-! ### rooms as data -/
def isRoomD (p : Int) (n : Nat) : PyData → Bool
  | .tuple ds => ds.all (isRowD p n) && decide (plainR p n (ds.map intsOf) = ds.map intsOf)
  | _ => false
theorem rests_ints {p : Int} : ∀ {es : List PyData}, es.all (restD p) = true → es = (es.map fun d => match d with | .int i => i | _ => 0).map PyData.int ∧ ∀ x ∈ es.map (fun d => match d with | .int i => i | _ => 0), 0 ≤ x ∧ x < p
  | [], _ => ⟨rfl, fun x hx => nomatch hx⟩
  | e :: es, h => by
    rw [List.all_cons, Bool.and_eq_true] at h
    obtain ⟨h1, h2⟩ := rests_ints h.2
    cases e with
    | int i =>
      have hi : (decide (0 ≤ i) && decide (i < p)) = true := h.1
      rw [Bool.and_eq_true] at hi
      refine ⟨?_, fun x hx => ?_⟩
      · rw [List.map_cons, List.map_cons, ← h1]
      · rw [List.map_cons] at hx
        rcases List.mem_cons.mp hx with rfl | hx
        · exact ⟨of_decide_eq_true hi.1, of_decide_eq_true hi.2⟩
        · exact h2 x hx
    | _ => exact (Bool.false_ne_true h.1).elim
theorem row_of {p : Int} {n : Nat} {d : PyData} (h : isRowD p n d = true) : d = rowD (intsOf d) ∧ (intsOf d).length = n ∧ ∀ x ∈ intsOf d, 0 ≤ x ∧ x < p := by
  cases d with
  | tuple es =>
    have h : (decide ((es.length : Int) = n) && es.all (restD p)) = true := h
    rw [Bool.and_eq_true] at h
    obtain ⟨h1, h2⟩ := rests_ints h.2
    have hl := of_decide_eq_true h.1
    refine ⟨?_, ?_, h2⟩
    · show PyData.tuple es = PyData.tuple _
      congr 1
    · show (es.map _).length = n
      rw [List.length_map]
      omega
  | _ => exact (Bool.false_ne_true h).elim
theorem rows_of {p : Int} {n : Nat} {ds : List PyData} (h : ds.all (isRowD p n) = true) : ds = (ds.map intsOf).map rowD ∧ RowsOk p n (ds.map intsOf) := by
  have h := List.all_eq_true.mp h
  constructor
  · rw [List.map_map]
    refine (List.map_id ds).symm.trans (List.map_congr_left fun d hd => ?_)
    exact (row_of (h d hd)).1
  · intro r hr
    obtain ⟨d, hd, rfl⟩ := List.mem_map.mp hr
    exact (row_of (h d hd)).2
theorem isRow_row {p : Int} {n : Nat} {r : List Int} (h : r.length = n ∧ ∀ x ∈ r, 0 ≤ x ∧ x < p) : isRowD p n (rowD r) = true := by
  show (decide (((r.map PyData.int).length : Int) = n) && (r.map PyData.int).all (restD p)) = true
  rw [List.length_map, h.1, decide_eq_true rfl, Bool.true_and, List.all_map, List.all_eq_true]
  intro x hx
  show (decide (0 ≤ x) && decide (x < p)) = true
  have := h.2 x hx
  rw [decide_eq_true this.1, decide_eq_true this.2]
  rfl
theorem eqvAll_ints : ∀ a b : List Int, PyData.eqvAll (a.map PyData.int) (b.map PyData.int) = decide (a = b)
  | [], [] => by simp [PyData.eqvAll]
  | [], _ :: _ => by simp [PyData.eqvAll]
  | _ :: _, [] => by simp [PyData.eqvAll]
  | x :: a, y :: b => by
    rw [List.map_cons, List.map_cons, PyData.eqvAll, eqvAll_ints a b]
    by_cases h : x = y
    · subst h
      simp [PyData.eqv]
    · simp [PyData.eqv, h]
theorem eqv_row_dec (a b : List Int) : PyData.eqv (rowD a) (rowD b) = decide (a = b) := by
  unfold rowD
  rw [PyData.eqv, eqvAll_ints]
theorem eqvAll_rows : ∀ a b : List (List Int), PyData.eqvAll (a.map rowD) (b.map rowD) = decide (a = b)
  | [], [] => by simp [PyData.eqvAll]
  | [], _ :: _ => by simp [PyData.eqvAll]
  | _ :: _, [] => by simp [PyData.eqvAll]
  | x :: a, y :: b => by
    rw [List.map_cons, List.map_cons, PyData.eqvAll, eqvAll_rows a b, eqv_row_dec]
    by_cases h : x = y
    · subst h
      simp
    · simp [h]
theorem eqv_rows_dec (a b : List (List Int)) : PyData.eqv (.tuple (a.map rowD)) (.tuple (b.map rowD)) = decide (a = b) := by
  rw [PyData.eqv, eqvAll_rows]
theorem all_id {α : Type} (q : α → Bool) (l : List α) : ((l.map q).all id) = l.all q := by
  rw [List.all_map]
  rfl
theorem rep_dpRows {K : PySem.W.Frag} {H : Hp} {bad : Addr → Prop} {xs : List V} {ds : List PyData} {p : Int} {n : Nat} (h : RepAll K H bad xs ds) (hd : ds.all (isRowD p n) = true) : DpAll K H xs ((ds.map intsOf).map rowD) := by
  refine rows_rep (bad := bad) ?_
  rw [← (rows_of hd).1]
  exact h
theorem lenOk_odd {p : Int} {e : PyData} (m : e ∈ oddD p) : lenOk e ∧ lenOk2 e := by
  unfold oddD at m
  simp only [List.mem_cons, List.not_mem_nil, or_false] at m
  rcases m with rfl | rfl | rfl | rfl | rfl | rfl | rfl | rfl | rfl | rfl | rfl | rfl | rfl | rfl | rfl | rfl | rfl | rfl
  all_goals refine ⟨?_, ?_⟩
  all_goals first
    | exact True.intro
    | exact (by decide : (0 : Nat) ≤ 1000)
    | exact (by decide : (1 : Nat) ≤ 1000)
    | exact ⟨by decide, List.forall_mem_singleton.mpr True.intro⟩
    | exact ⟨by decide, List.forall_mem_singleton.mpr (by decide : (1 : Nat) ≤ 1000)⟩
    | exact ⟨by decide, fun x hx => absurd hx List.not_mem_nil⟩
theorem lenOk_pu {n : Nat} {e : PyData} (h : Pu n e) : lenOk e := by
  cases n with
  | zero => obtain ⟨i, rfl, _⟩ := h; exact True.intro
  | succ n => obtain ⟨ds, rfl, hl, _⟩ := h; exact Nat.le_trans hl (by decide)
theorem lenOk2_pu {n : Nat} {e : PyData} (h : Pu n e) : lenOk2 e := by
  cases n with
  | zero => obtain ⟨i, rfl, _⟩ := h; exact True.intro
  | succ n => obtain ⟨ds, rfl, hl, hx⟩ := h; exact ⟨Nat.le_trans hl (by decide), fun x m => lenOk_pu (hx x m)⟩
theorem lenOk_bt {p : Int} {n : Nat} {e : PyData} (h : Bt p n e) : lenOk e := by
  cases n with
  | zero =>
    rcases h with h | ⟨i, rfl, _⟩
    · exact (lenOk_odd h).1
    · exact True.intro
  | succ n =>
    rcases h with h | ⟨as, e', bs, rfl, la, lb, _⟩ | ⟨ds, rfl, hl, _⟩ | ⟨ds, rfl, _⟩
    · exact (lenOk_odd h).1
    · show (as ++ e' :: bs).length ≤ 1000
      rw [List.length_append, List.length_cons]
      omega
    · exact Nat.le_trans hl (by decide)
    · exact True.intro
theorem lenOk2_bt {p : Int} {n : Nat} {e : PyData} (h : Bt p n e) : lenOk2 e := by
  cases n with
  | zero =>
    rcases h with h | ⟨i, rfl, _⟩
    · exact (lenOk_odd h).2
    · exact True.intro
  | succ n =>
    rcases h with h | ⟨as, e', bs, rfl, la, lb, h1, h2, h3⟩ | ⟨ds, rfl, hl, h1⟩ | ⟨ds, rfl, _⟩
    · exact (lenOk_odd h).2
    · refine ⟨by rw [List.length_append, List.length_cons]; omega, fun x hx => ?_⟩
      rcases List.mem_append.mp hx with hx | hx
      · exact lenOk_pu (h1 x hx)
      · rcases List.mem_cons.mp hx with rfl | hx
        · exact lenOk_bt h3
        · exact lenOk_pu (h2 x hx)
    · exact ⟨Nat.le_trans hl (by decide), fun x m => lenOk_pu (h1 x m)⟩
    · exact True.intro
theorem tok_pu {n : Nat} {e : PyData} (h : Pu n e) (hn : n ≤ 2) : TOk e := by
  refine ⟨lenOk2_pu h, (pu_fit n e h).fit ?_ (by omega)⟩
  match n, hn with
  | 0, _ => decide
  | 1, _ => decide
  | 2, _ => decide
theorem tok_bt {p : Int} (hp1 : 2 ≤ p) (hp2 : p ≤ 1000) {n : Nat} {e : PyData} (h : Bt p n e) (hn : n ≤ 2) : TOk e := by
  have hp : p.natAbs < 10 ^ 30 := Nat.lt_of_le_of_lt (show p.natAbs ≤ 1000 by omega) (by decide)
  refine ⟨lenOk2_bt h, (bt_fit hp n e h).fit ?_ (by omega)⟩
  match n, hn with
  | 0, _ => decide
  | 1, _ => decide
  | 2, _ => decide
theorem pu_row {p : Int} {r : List Int} (h : RowOk p r) (hp : p ≤ 1000) (hl : r.length ≤ 20) : Pu 1 (rowD r) := by
  refine ⟨_, rfl, by rw [List.length_map]; omega, fun x hx => ?_⟩
  obtain ⟨i, mi, rfl⟩ := List.mem_map.mp hx
  have := h i mi
  exact ⟨i, rfl, by omega, by omega⟩
theorem pu_rows2 {p : Int} {n : Nat} {rs : List (List Int)} (h : RowsOk p n rs) (hp : p ≤ 1000) (hn : n ≤ 20) (hl : rs.length ≤ 30) : Pu 2 (.tuple (rs.map rowD)) := by
  refine ⟨_, rfl, by rw [List.length_map]; omega, fun x hx => ?_⟩
  obtain ⟨r, mr, rfl⟩ := List.mem_map.mp hx
  exact pu_row (h r mr).2 hp (by rw [(h r mr).1]; exact hn)
theorem pu_rep {x : Int} (hx : -1000000 ≤ x ∧ x ≤ 1000000) {n : Nat} (hn : n ≤ 20) : Pu 1 (rowD (List.replicate n x)) := by
  refine ⟨_, rfl, by rw [List.length_map, List.length_replicate]; omega, fun y hy => ?_⟩
  obtain ⟨i, mi, rfl⟩ := List.mem_map.mp hy
  have := List.eq_of_mem_replicate mi
  exact ⟨i, rfl, by omega, by omega⟩
end OC

set_option Elab.async false
set_option linter.all false
set_option maxRecDepth 100000
/-! lists of things, filled while the deck is drawn from -/
namespace OC
open PySem PySem.Spec PyProof.Rows L2
theorem cut_upto {xs : List V} {i : Int} (h0 : 0 ≤ i) : cutV xs none (some i) = xs.take i.toNat := by
  unfold cutV
  have e : HT.sIx xs.length xs.length (some i) = min i.toNat xs.length := by
    have := HT.sIx_nat xs.length xs.length i.toNat
    rw [show ((i.toNat : Nat) : Int) = i by omega] at this
    exact this
  rw [e, HT.sIx_none, List.drop_zero, Nat.sub_zero, ← List.take_eq_take_min]
structure Th (K : PySem.W.Frag) (H : Hp) (d c M : Addr) (vs : List V) (es : List PyData) : Prop where
  m : H M = some (.lst vs)
  nb : ¬ Bad d c M
  r : RepAll K H (fun a => Bad d c a ∨ a = M) vs es
section
variable {K : PySem.W.Frag} {H H' : Hp} {d c M : Addr} {t : Int} {vs : List V} {es : List PyData}
theorem Th.same (h : Th K H d c M vs es) (s : Same H H') : Th K H' d c M vs es := ⟨s _ _ h.m, h.nb, repAll_stays (Stays.of s) _ _ h.r⟩
theorem Th.kept (h : Th K H d c M vs es) (D : Deck H d c t) (k : Kept d c H H') : Th K H' d c M vs es :=
  ⟨k _ _ h.m (fun z => h.nb (.inl z)) (fun z => h.nb (.inr z)), h.nb, repAll_stays (Stays.kept2 D k (.inl (.inl rfl)) (.inl (.inr rfl))) _ _ h.r⟩
theorem Th.push (h : Th K H d c M vs es) {v : V} {e : PyData} (r : Rep K H (fun a => Bad d c a ∨ a = M) v e) : Th K (upd H M (.lst (vs ++ [v]))) d c M (vs ++ [v]) (es ++ [e]) := by
  have st : Stays (fun a => Bad d c a ∨ a = M) H (upd H M (.lst (vs ++ [v]))) := upd_stays (Stays.of (Same.refl H)) h.m (.inr rfl)
  exact ⟨upd_same, h.nb, repAll_append (repAll_stays st _ _ h.r) (.cons (rep_stays st _ _ r) .nil)⟩
theorem Th.new (D : Deck H d c t) (n : H M = none) (r : RepAll K H (Bad d c) vs es) : Th K (upd H M (.lst vs)) d c M vs es :=
  ⟨upd_same, D.fresh n, repAll_stays (Stays.of (same_upd n)) _ _ (repAll_fresh n _ _ r)⟩
theorem Th.more {B N : Addr} {ws : List V} {fs : List PyData} (h : Th K H d c M vs es) (g : Th K H d c B ws fs) (D : Deck H d c t) (n : H N = none) : Th K (upd H N (.lst (vs ++ ws))) d c N (vs ++ ws) (es ++ fs) :=
  Th.new D n (repAll_append (repAll_weak (fun _ h => .inl h) _ _ h.r) (repAll_weak (fun _ h => .inl h) _ _ g.r))
theorem rep_pu {b1 b2 : Addr → Prop} {n : Nat} {v : V} {e : PyData} (h : Pu n e) (r : Rep K H b1 v e) : Rep K H b2 v e := rep_pure (Tk.refl H) n e v h r
theorem Th.len (h : Th K H d c M vs es) : vs.length = es.length := repAll_len h.r
theorem Th.nbr (h : Th K H d c M vs es) : RepAll K H NB vs es := repAll_nb h.r
end
/-- [t for x in xs], each t a thing, made while the deck is drawn from -/
theorem lc_things {K : PySem.W.Frag} {J : It} {G : Hp → Prop} {n : Nat} {Pk : Nat → V → Prop} {σ : L2.St} {H : Hp} {d c : Addr} {t : Int} {Qd : Addr → Hp → Prop} {i : Nat} {sl : List Nat} {te : TE} (m : Int) (Ok : PyData → Prop)
    (w : Walk J n G (fun k H x H' => H' = H ∧ Pk k x)) (D : Deck H d c t) (hz : n ≤ 100) (hG : ∀ H', Kept d c H H' → G H') (hw : ∀ x : Option V, wipe ((wipe σ sl).set i x) sl = wipe σ sl)
    (hte : ∀ (k : Nat) (x : V) (H' : Hp) (t' : Int) (Q' : VK), k < n → Pk k x → Kept d c H H' → Deck H' d c t' → t' ≤ t + m * k →
      (∀ (v' : V) (e' : PyData) (H3 : Hp) (t3 : Int), Kept d c H' H3 → Deck H3 d c t3 → t3 ≤ t' + m → Rep K H3 (fun a => H' a ≠ none) v' e' → Ok e' → Q' v' H3) → te ((wipe σ sl).set i (some x)) H' Q')
    (hd : ∀ (B : Addr) (H' : Hp) (vs : List V) (fs : List PyData) (t' : Int), Kept d c H H' → Deck H' d c t' → t' ≤ t + m * n → H B = none → Th K H' d c B vs fs → (∀ e ∈ fs, Ok e) → vs.length = n → Qd B H') : LcGoal J (gName i) tYes te sl σ H Qd := by
  intro B nB
  have bB := D.fresh nB
  refine lc_it w (fun k H' => Kept d c H H' ∧ ∃ (t' : Int) (vs : List V) (fs : List PyData), Deck H' d c t' ∧ t' ≤ t + m * k ∧ Th K H' d c B vs fs ∧ (∀ e ∈ fs, Ok e) ∧ vs.length = k)
    ⟨Kept.of (same_upd nB), t, [], [], D.same (same_upd nB), by simp, Th.new D nB .nil, fun e he => (nomatch he), rfl⟩ (fun k H' _ hP => hG H' hP.1) (fun k x H1 H2 hk hP hY => ?_) (fun H' hP => ?_)
  · obtain ⟨rfl, px⟩ := hY
    obtain ⟨k', t', vs, fs, D', ht', th, okf, lv⟩ := hP
    refine ⟨hw _, hte k x H2 t' _ hk px k' D' ht' fun v' e' H3 t3 k3 D3 ht3 rv ok => ?_⟩
    have th3 := th.kept D' k3
    refine ⟨vs, th3.m, small1000 (by omega), (k'.trans k3).mut nB, t3, vs ++ [v'], fs ++ [e'], D3.mut bB, ?_, th3.push (rep_weak (fun b hb => ?_) _ _ rv), fun x hx => ?_, by rw [List.length_append, lv]; rfl⟩
    · have e : m * ((k + 1 : Nat) : Int) = m * k + m := by
        rw [Int.natCast_add, Int.mul_add]
        simp
      rw [e]
      omega
    · rcases hb with (z | z) | z
      · subst z; rw [D'.hd]; exact fun h => nomatch h
      · obtain ⟨cells, h1, _⟩ := D'.hc
        subst z; rw [h1]; exact fun h => nomatch h
      · subst z; rw [th.m]; exact fun h => nomatch h
    · rcases List.mem_append.mp hx with hx | hx
      · exact okf x hx
      · have : x = e' := by simpa using hx
        rw [this]
        exact ok
  · obtain ⟨k', t', vs, fs, D', ht', th, okf, lv⟩ := hP
    exact hd B H' vs fs t' k' D' ht' nB th okf lv
end OC

set_option Elab.async false
set_option linter.all false
set_option maxRecDepth 100000
/-! across: the program's own rows, and what they are -/
namespace OC
open PySem PySem.Spec PyProof.Rows L2 Lin
def crossF (p : Int) (room : List (List Int)) (j : Nat) (r0 : List Int) : List Int := room.foldl (fun r b => r.set (fpR b) ((-(b.getD j 0)) % p)) r0
def crossR (p : Int) (n : Nat) (room : List (List Int)) (j : Nat) : List Int := crossF p room j ((List.replicate n 0).set j 1)
def freesR (n : Nat) (room : List (List Int)) : List Nat := (List.range n).filter fun j => !decide (j ∈ room.map fpR)
def acrossR (p : Int) (n : Nat) (room : List (List Int)) : List (List Int) := plainR p n ((freesR n room).map (crossR p n room))
theorem crossF_take {p : Int} {room : List (List Int)} {j i : Nat} {b r0 : List Int} (h : room[i]? = some b) : crossF p (room.take (i + 1)) j r0 = (crossF p (room.take i) j r0).set (fpR b) ((-(b.getD j 0)) % p) := by
  unfold crossF
  rw [List.take_add_one, h, List.foldl_append]
  rfl
theorem crossF_len (p : Int) (j : Nat) : ∀ (room : List (List Int)) (r0 : List Int), (crossF p room j r0).length = r0.length
  | [], _ => rfl
  | b :: room, r0 => by
    show (crossF p room j (r0.set (fpR b) _)).length = _
    rw [crossF_len p j room, List.length_set]
theorem crossF_ok {p : Int} (hp : 0 < p) (j : Nat) : ∀ (room : List (List Int)) (r0 : List Int), (∀ x ∈ r0, 0 ≤ x ∧ x < p) → ∀ x ∈ crossF p room j r0, 0 ≤ x ∧ x < p
  | [], _, h => h
  | b :: room, r0, h => crossF_ok hp j room _ fun x hx => by
    rcases List.mem_or_eq_of_mem_set hx with hx | rfl
    · exact h x hx
    · exact ⟨Int.emod_nonneg _ (by omega), Int.emod_lt_of_pos _ hp⟩
theorem crossR_ok {p : Int} (hp : 2 ≤ p) (n : Nat) (room : List (List Int)) (j : Nat) : (crossR p n room j).length = n ∧ ∀ x ∈ crossR p n room j, 0 ≤ x ∧ x < p := by
  refine ⟨?_, crossF_ok (by omega) j room _ fun x hx => ?_⟩
  · unfold crossR
    rw [crossF_len, List.length_set, List.length_replicate]
  · rcases List.mem_or_eq_of_mem_set hx with hx | rfl
    · rw [List.eq_of_mem_replicate hx]
      omega
    · omega
section
variable {q : Nat} [NeZero q]
theorem getD_set {r : List Int} {k : Nat} {v : Int} (hk : k < r.length) (i : Nat) : (r.set k v).getD i 0 = if i = k then v else r.getD i 0 := by
  by_cases h : i = k
  · subst h
    rw [if_pos rfl, gd_lt (by rw [List.length_set]; exact hk), List.getElem_set_self]
  · rw [if_neg h]
    by_cases hi : i < r.length
    · rw [gd_lt (by rw [List.length_set]; exact hi), List.getElem_set_ne (fun z => h z.symm), gd_lt hi]
    · rw [gd_ge (by rw [List.length_set]; omega), gd_ge (by omega)]
theorem cF_neg (x : Int) : cF (q := q) (-x) = -cF x := by
  have h := cF_sub (q := q) 0 x
  rw [Int.zero_sub, cF_zero] at h
  rw [h]
  grind
theorem crossF_sim {n : Nat} (j : Nat) : ∀ (room : List (List Int)) (bs : List (Nat × Vec q)) (r0 : List Int), RowsOk q n room → r0.length = n → bs.map (·.2) = room.map (toV (q := q)) → (∀ b ∈ bs, Lead b.2 b.1 ∧ b.1 < n) → bs.Pairwise (fun a b => a.1 < b.1) → (∀ b ∈ bs, r0.getD b.1 0 = 0) →
    toV (q := q) (crossF q room j r0) = fun i => toV r0 i + (crossV bs j i - unitV j i)
  | [], [], r0, _, _, _, _, _, _ => by
    funext i
    show toV r0 i = toV r0 i + (unitV j i - unitV j i)
    grind
  | [], _ :: _, _, _, _, e, _, _, _ => by cases e
  | _ :: _, [], _, _, _, e, _, _, _ => by cases e
  | c :: room, b :: bs, r0, h1, h2, e, hl, hi, hz => by
    rw [List.map_cons, List.map_cons] at e
    obtain ⟨e1, e2⟩ := List.cons.inj e
    obtain ⟨i1, i2⟩ := List.pairwise_cons.mp hi
    have hc := h1 c List.mem_cons_self
    have hb := hl b List.mem_cons_self
    have fj : fpR c = b.1 := fpR_lead (q := q) hc.2 (by rw [← e1]; exact hb.1)
    have hlt : fpR c < r0.length := by rw [fj, h2]; exact hb.2
    have ih := crossF_sim j room bs (r0.set (fpR c) ((-(c.getD j 0)) % q)) (fun x hx => h1 x (List.mem_cons_of_mem _ hx)) (by rw [List.length_set]; exact h2) e2 (fun x hx => hl x (List.mem_cons_of_mem _ hx)) i2 fun x hx => by
      rw [getD_set hlt, if_neg (by rw [fj]; have := i1 x hx; omega)]
      exact hz x (List.mem_cons_of_mem _ hx)
    show toV (q := q) (crossF q room j (r0.set (fpR c) ((-(c.getD j 0)) % q))) = _
    rw [ih]
    funext i
    show cF ((r0.set (fpR c) ((-(c.getD j 0)) % q)).getD i 0) + (crossV bs j i - unitV j i) = toV r0 i + ((-(b.2 j)) * unitV b.1 i + crossV bs j i - unitV j i)
    have ej : b.2 j = cF (c.getD j 0) := congrFun e1 j
    have hz0 := hz b List.mem_cons_self
    rw [getD_set hlt, fj, ej]
    unfold unitV
    by_cases hib : i = b.1
    · subst hib
      rw [if_pos rfl, if_pos rfl, cF_mod, cF_neg]
      show -cF (c.getD j 0) + _ = cF (r0.getD b.1 0) + _
      rw [hz0, cF_zero]
      grind
    · rw [if_neg hib, if_neg hib]
      show cF (r0.getD i 0) + _ = cF (r0.getD i 0) + _
      grind
theorem firsts_eq {n : Nat} : ∀ (room : List (List Int)) (bs : List (Nat × Vec q)), RowsOk q n room → bs.map (·.2) = room.map (toV (q := q)) → (∀ b ∈ bs, Lead b.2 b.1) → room.map fpR = bs.map (·.1)
  | [], [], _, _, _ => rfl
  | [], _ :: _, _, e, _ => by cases e
  | _ :: _, [], _, e, _ => by cases e
  | c :: room, b :: bs, h1, e, hl => by
    rw [List.map_cons, List.map_cons] at e
    obtain ⟨e1, e2⟩ := List.cons.inj e
    rw [List.map_cons, List.map_cons, firsts_eq room bs (fun x hx => h1 x (List.mem_cons_of_mem _ hx)) e2 fun x hx => hl x (List.mem_cons_of_mem _ hx), fpR_lead (q := q) (h1 c List.mem_cons_self).2 (by rw [← e1]; exact hl b List.mem_cons_self)]
/-- the rows by the free places, as vectors -/
theorem IsPF.cross (hF : Fld (q : Int)) {n : Nat} {room : List (List Int)} (h : IsPF q n room) : ∃ bs : List (Nat × Vec q), PF n bs ∧ bs.map (·.2) = room.map (toV (q := q)) ∧ ((freesR n room).map (crossR q n room)).map (toV (q := q)) = (frees n bs).map (crossV bs) := by
  obtain ⟨ok, bs, pf, e⟩ := h
  have ld : ∀ b ∈ bs, Lead b.2 b.1 := fun b hb => pf.leads (one_ne (q2 hF)) hb
  have ef := firsts_eq room bs ok e ld
  refine ⟨bs, pf, e, ?_⟩
  have e1 : freesR n room = frees n bs := by
    unfold freesR frees isFirst
    rw [ef]
  rw [e1, List.map_map]
  apply List.map_congr_left
  intro j hj
  obtain ⟨jn, jf⟩ := mem_frees.mp hj
  have hz : ∀ b ∈ bs, ((List.replicate n (0 : Int)).set j 1).getD b.1 0 = 0 := fun b hb => by
    rw [getD_set (by rw [List.length_replicate]; exact jn), if_neg (jf b hb), gd_lt (by rw [List.length_replicate]; exact pf.lt b hb), List.getElem_replicate]
  show toV (q := q) (crossF q room j ((List.replicate n 0).set j 1)) = crossV bs j
  rw [crossF_sim (n := n) j room bs _ ok (by rw [List.length_set, List.length_replicate]) e (fun b hb => ⟨ld b hb, pf.lt b hb⟩) pf.inc hz]
  funext i
  have eu : toV (q := q) ((List.replicate n (0 : Int)).set j 1) i = unitV j i := by
    show cF (((List.replicate n (0 : Int)).set j 1).getD i 0) = _
    rw [getD_set (by rw [List.length_replicate]; exact jn)]
    unfold unitV
    by_cases hij : i = j
    · rw [if_pos hij, if_pos hij, cF_one (q2 hF)]
    · rw [if_neg hij, if_neg hij]
      by_cases hi : i < n
      · rw [gd_lt (by rw [List.length_replicate]; exact hi), List.getElem_replicate, cF_zero]
      · rw [gd_ge (by rw [List.length_replicate]; omega), cF_zero]
  rw [eu]
  grind
theorem free_rows {p : Int} (hp : 2 ≤ p) (n : Nat) (room : List (List Int)) : RowsOk p n ((freesR n room).map (crossR p n room)) := fun r hr => by
  obtain ⟨j, _, rfl⟩ := List.mem_map.mp hr
  exact crossR_ok hp n room j
theorem acrossR_perp (hF : Fld (q : Int)) {n : Nat} {room : List (List Int)} (h : IsPF q n room) (w : Vec q) : Mk q (acrossR q n room) w ↔ Perp n (Mk q room) w := by
  obtain ⟨bs, pf, e, ec⟩ := h.cross hF
  unfold acrossR
  rw [plainR_mk hF (free_rows hF.1 n room)]
  unfold Mk
  rw [ec, ← e]
  exact pf.perp_spn w
theorem good (hF : Fld (q : Int)) (n : Nat) : Good (invF (q := q)) n := ⟨one_ne (q2 hF), invF_ok hF⟩
theorem acrossR_size (hF : Fld (q : Int)) {n : Nat} {room : List (List Int)} (h : IsPF q n room) : (acrossR q n room).length + room.length = n := by
  obtain ⟨bs, pf, e, ec⟩ := h.cross hF
  have lb := congrArg List.length e
  rw [List.length_map, List.length_map] at lb
  unfold acrossR
  rw [plainR_len (free_rows hF.1 n room), ec, ← lb]
  exact (good hF n).perp_dim pf
theorem acrossR_pf (hF : Fld (q : Int)) (n : Nat) (room : List (List Int)) : IsPF q n (acrossR q n room) := plainR_pf hF (free_rows hF.1 n room)
/-- a row is of the room just where it is worth 0 at all worlds across -/
theorem perp_across (hF : Fld (q : Int)) {n : Nat} {room : List (List Int)} (h : IsPF q n room) (x : Vec q) : Perp n (Mk q (acrossR q n room)) x ↔ Mk q room x := by
  obtain ⟨_, bs, pb, eb⟩ := id h
  obtain ⟨_, cs, pc, ec⟩ := acrossR_pf hF n room
  have := (good hF n).perp_perp pb pc (fun w => by
    have := acrossR_perp hF h w
    unfold Mk at this
    rwa [← eb, ← ec] at this) x
  unfold Mk
  rwa [← eb, ← ec]
theorem acrossR_twice (hF : Fld (q : Int)) {n : Nat} {room : List (List Int)} (h : IsPF q n room) : acrossR q n (acrossR q n room) = room :=
  (acrossR_pf hF n _).uniq hF h fun x => (acrossR_perp hF (acrossR_pf hF n room) x).trans (perp_across hF h x)
/-! ### worth -/
theorem dot_sum {n : Nat} {x y : List Int} (hx : x.length = n) (hy : y.length = n) : ∀ k, k ≤ n → cF (q := q) ((List.zipWith (fun a b => a * b) x y).take k).sum = dot k (toV x) (toV y)
  | 0, _ => by
    rw [List.take_zero, List.sum_nil, cF_zero]
    rfl
  | k + 1, hk => by
    have g1 : x[k]? = some x[k] := List.getElem?_eq_getElem (by omega)
    have g2 : y[k]? = some y[k] := List.getElem?_eq_getElem (by omega)
    rw [sum_take (z := x[k] * y[k]) (by rw [List.getElem?_zipWith, g1, g2]), cF_add, dot_sum hx hy k (by omega), cF_mul]
    show _ = dot k (toV x) (toV y) + cF (x.getD k 0) * cF (y.getD k 0)
    rw [gd_lt (r := x) (by omega), gd_lt (r := y) (by omega)]
theorem worth_dot {n : Nat} {x y : List Int} (hx : x.length = n) (hy : y.length = n) : cF (q := q) (worthR q x y) = dot n (toV x) (toV y) := by
  unfold worthR
  rw [cF_mod, ← dot_sum hx hy n (Nat.le_refl n), List.take_of_length_le (by rw [List.length_zipWith]; omega)]
theorem worth_zero {n : Nat} {x y : List Int} (hx : x.length = n) (hy : y.length = n) : worthR q x y = 0 ↔ dot n (toV (q := q) x) (toV y) = 0 := by
  rw [← worth_dot hx hy]
  have := cF_ne (q := q) (worth_bd (p := q) (x := x) (y := y) q_pos)
  constructor
  · intro h
    rw [h, cF_zero]
  · intro h
    apply Classical.byContradiction
    intro hn
    exact this.mpr hn h
theorem spn_dot {n : Nat} {rows : List (List Int)} {w : Vec q} (h : ∀ r ∈ rows, dot n (toV (q := q) r) w = 0) {x : Vec q} (hx : Mk q rows x) : dot n x w = 0 := by
  have S : Sub (fun x : Vec q => dot n x w = 0) := dot_sub n w 0
  refine spn_le S (fun v hv => ?_) hx
  obtain ⟨r, hr, rfl⟩ := List.mem_map.mp hv
  exact h r hr
end
theorem PFR.across {p : Int} (hF : Fld p) (n : Nat) (room : List (List Int)) : PFR p n (acrossR p n room) := PFR.of_plain hF (free_rows hF.1 n room)
theorem PFR.across_size {p : Int} (hF : Fld p) {n : Nat} {room : List (List Int)} (h : PFR p n room) : (acrossR p n room).length + room.length = n := by
  obtain ⟨q, rfl, _, hF⟩ := to_q hF
  exact acrossR_size hF ((isPF_iff hF).mpr h)
theorem PFR.across_twice {p : Int} (hF : Fld p) {n : Nat} {room : List (List Int)} (h : PFR p n room) : acrossR p n (acrossR p n room) = room := by
  obtain ⟨q, rfl, _, hF⟩ := to_q hF
  exact acrossR_twice hF ((isPF_iff hF).mpr h)
/-- the rows of a room are worth 0 at all worlds across -/
theorem across_worth {p : Int} (hF : Fld p) {n : Nat} {rows : List (List Int)} (h : RowsOk p n rows) {r w : List Int} (hr : r ∈ rows) (hw : w ∈ acrossR p n (plainR p n rows)) : worthR p r w = 0 := by
  obtain ⟨q, rfl, _, hF⟩ := to_q hF
  have pf := plainR_pf hF h
  have ok := (acrossR_pf hF n (plainR q n rows)).1
  refine (worth_zero (h r hr).1 (ok w hw).1).mpr ?_
  have hp := (acrossR_perp hF pf (toV w)).mp (spn_mem (List.mem_map_of_mem hw))
  exact hp.2 _ ((plainR_mk hF h _).mpr (spn_mem (List.mem_map_of_mem hr)))
/-- a row is parted by some world across just where it isn't made -/
theorem across_parts {p : Int} (hF : Fld p) {n : Nat} {rows : List (List Int)} (h : RowsOk p n rows) {r : List Int} (hr : RowsOk p n [r]) : (∀ w ∈ acrossR p n (plainR p n rows), worthR p r w = 0) ↔ hasR p n rows r = true := by
  obtain ⟨q, rfl, _, hF⟩ := to_q hF
  have pf := plainR_pf hF h
  have ok := (acrossR_pf hF n (plainR q n rows)).1
  have okr := hr r List.mem_cons_self
  have e : hasR q n rows r = true ↔ Mk q rows (toV r) := by
    unfold hasR
    rw [decide_eq_true_iff]
    exact plainR_has hF h hr
  rw [e, ← plainR_mk hF h, ← perp_across hF pf]
  constructor
  · intro hz
    refine ⟨fun i hi => toV_wid okr.1 i hi, fun x hx => ?_⟩
    refine spn_dot (fun w hw => ?_) hx
    rw [dot_comm]
    exact (worth_zero okr.1 (ok w hw).1).mp (hz w hw)
  · intro hp w hw
    refine (worth_zero okr.1 (ok w hw).1).mpr ?_
    rw [dot_comm]
    exact hp.2 _ (spn_mem (List.mem_map_of_mem hw))
end OC

set_option Elab.async false
set_option linter.all false
set_option maxRecDepth 100000
set_option maxHeartbeats 2000000
/-! repr of any thing, lists with dicts too: the modules' own dict is none of them -/
namespace OC
open PySem PySem.Spec PyProof.Rows L2
def HasSys (base : Heap) : Prop := ∃ o, base.get? sysModules = some o
section
variable {X : Cx} {pins : List (Addr × Obj)} {σ : L2.St} {H : Hp} {s : Shared} {bad : Addr → Prop}
theorem sys_none (hs : HasSys X.base) (I : Inv X pins σ H s) : H sysModules = none := by
  obtain ⟨o, e⟩ := hs
  exact (I.bs _ _ e).2
mutual
theorem rep_readsS (hs : HasSys X.base) (I : Inv X pins σ H s) : ∀ (d : PyData) (v : V) (u : Value), Rep X.K H bad v d → RelV v u → ∃ as, Reads s.heap u d as ∧ sysModules ∉ as
  | .none, _, _, h, r => by cases h; cases r; exact ⟨_, .none, nofun⟩
  | .bool b, _, _, h, r => by cases h; cases r; exact ⟨_, .bool b, nofun⟩
  | .int i, _, _, h, r => by cases h; obtain ⟨t, rfl⟩ := r; exact ⟨_, .int i t, nofun⟩
  | .str x, _, _, h, r => by cases h; obtain ⟨t, rfl⟩ := r; exact ⟨_, .str x t, nofun⟩
  | .list ds, _, _, h, r => by
    cases h with
    | @lst a xs _ hq hb ha =>
      cases r
      have ne : sysModules ≠ a := fun z => by
        have := sys_none hs I
        rw [z, hq] at this
        cases this
      obtain ⟨its, rv, ⟨o, n, ho, hc, _, hd⟩, _⟩ := I.list (.inl (.inl hq))
      obtain ⟨as, q, f⟩ := repAll_readsS hs I ds _ its ha rv
      refine ⟨_, .list ho hc hd q, fun m => ?_⟩
      first
        | exact f m
        | (rcases List.mem_cons.mp m with z | m; exact ne z; exact f m)
  | .tuple ds, _, _, h, r => by
    cases h with
    | tup hq ha =>
      cases r
      obtain ⟨its, rv, ⟨o, ho, hc, n, hd⟩, _⟩ := I.tuple hq
      obtain ⟨as, q, f⟩ := repAll_readsS hs I ds _ its ha rv
      exact ⟨_, .tuple ho hc hd q, f⟩
  | .dict kvs, v, u, h, r => by
    cases h with
    | @dct a ks hq hf =>
      cases r
      obtain ⟨_, hsys, vs, kv, o, es, ep, ho, hx, hd, _, hp, _⟩ := I.hok a _ hq
      obtain ⟨r1, r2⟩ := reads_pairs (h := s.heap) hp kv hf
      refine ⟨a :: [] ++ [], .dict ho hx.1 hd (by rw [List.map_map]; exact r1) (by rw [List.map_map]; exact r2), fun m => ?_⟩
      have e : sysModules = a := by simpa using m
      rw [← e] at hsys
      simp at hsys
theorem repAll_readsS (hs : HasSys X.base) (I : Inv X pins σ H s) : ∀ (ds : List PyData) (vs : List V) (us : List Value), RepAll X.K H bad vs ds → Vals vs us → ∃ as, ReadsAll s.heap us ds as ∧ sysModules ∉ as
  | [], _, _, h, r => by cases h; cases r; exact ⟨_, .nil, nofun⟩
  | d :: ds, _, _, h, r => by
    cases h with
    | cons h1 h2 =>
      cases r with
      | cons r1 r2 =>
        obtain ⟨as, q1, f1⟩ := rep_readsS hs I d _ _ h1 r1
        obtain ⟨bs, q2, f2⟩ := repAll_readsS hs I ds _ _ h2 r2
        refine ⟨_, .cons q1 q2, fun m => ?_⟩
        rcases List.mem_append.mp m with m | m
        · exact f1 m
        · exact f2 m
end
end
/-- what repr asks of a thing, wherever dicts and lists stand in it -/
structure FitS (d : PyData) : Prop where
  len : d.shown.length ≤ 10000000
  sh : d.showable = true
  dp : d.depth ≤ 55
theorem Fit.s {d : PyData} (h : Fit d) : FitS d := ⟨Nat.le_trans h.len (by decide), h.sh, Nat.le_trans h.dp (by decide)⟩
theorem fitS_list {ds : List PyData} (hl : ds.length ≤ 5) (h : ∀ d ∈ ds, Fit d) : FitS (.list ds) := by
  refine ⟨?_, ?_, ?_⟩
  · simp only [PyData.shown]
    refine Nat.le_trans (listText_len_le _) ?_
    rw [shownAll_map, List.length_map]
    have h1 := sum_le (B := 1000000) (ts := ds.map PyData.shown) fun t ht => by
      obtain ⟨d, m, rfl⟩ := List.mem_map.mp ht
      exact (h d m).len
    rw [List.length_map] at h1
    omega
  · simp only [PyData.showable]
    exact showAll_of fun d m => (h d m).sh
  · simp only [PyData.depth]
    have := depthAll_of fun d m => (h d m).dp
    omega
def rReprS (K : PySem.W.Frag) (bad : Addr → Prop) : List V → Hp → VK → Prop := fun xs H Q => ∃ v d, xs = [v] ∧ Rep K H bad v d ∧ FitS d ∧ Q (.str d.shown) H
theorem call_reprS {X : Cx} {k : Nat} (bad : Addr → Prop) (hs : HasSys X.base) (hr : Room k X.A) (hgd : X.A.guards = some []) : CallR X (.builtin "repr") (rReprS X.K bad) := by
  intro pins s σ H xs us Q I r h
  obtain ⟨v, d, rfl, hv, ⟨fl, fs, fd⟩, q⟩ := h
  cases r with
  | cons r1 r2 =>
    cases r2
    have hz : d.shown.length ≤ sizeLine := Nat.le_trans fl (by decide)
    have hu := hr.units
    obtain ⟨as, rd, hsm⟩ := rep_readsS hs I d v _ hv r1
    cases hv with
    | non => cases r1; exact P.repr_of_none ⟨.str _, H, I.tok _, ⟨_, rfl⟩, q⟩
    | bl b => cases r1; exact P.repr_of_bool ⟨.str _, H, I.tok _, ⟨_, rfl⟩, q⟩
    | int i =>
      obtain ⟨t, rfl⟩ := r1
      exact P.repr_of_int (by simpa [PyData.showable] using fs) ⟨.str _, H, I.tok _, ⟨_, rfl⟩, q⟩
    | str x =>
      obtain ⟨t, rfl⟩ := r1
      exact P.repr_of_str ⟨.str _, H, I.tok _, ⟨_, rfl⟩, q⟩ hz
    | lst _ _ _ => cases r1; exact repr_of_reads' rd fs (fun _ => hsm) hgd (by omega) (fun _ _ e => e) (fun h' u tk hk => ⟨.str _, H, I.kept hk, ⟨_, rfl⟩, q⟩) hz
    | tup _ _ => cases r1; exact repr_of_reads' rd fs (fun _ => hsm) hgd (by omega) (fun _ _ e => e) (fun h' u tk hk => ⟨.str _, H, I.kept hk, ⟨_, rfl⟩, q⟩) hz
    | dct _ _ => cases r1; exact repr_of_reads' rd fs (fun _ => hsm) hgd (by omega) (fun _ _ e => e) (fun h' u tk hk => ⟨.str _, H, I.kept hk, ⟨_, rfl⟩, q⟩) hz
/-! ### the end, with that -/
section
variable {P : Program} {w : World} {K : PySem.W.Frag} {mg mb : Str → Option Value} {CX : CXT} {k : Nat} {fa a : Addr} {fd : FuncData} {x : Str} {sp : Sp} {s₁ : Shared} {vs : List Value} {ns : List Int}
theorem law_callS (KX : K.In s₁.heap) (hns : s₁.heap.Ns mainGlobals mg) (hb : s₁.heap.Ns builtinsNs mb) (hbb : ∀ x : Str, x ≠ "__name__" → mb x = bootBuiltins x) (hsy : ∃ mm, s₁.heap.Ns sysModules mm)
    (hlim : s₁.heap.NoLimit) (hg : s₁.gens = #[]) (ha : s₁.heap.get? a = some { cls := .type "list", data := .seq vs.toArray }) (hi : IntsAre vs ns) (hl : ns.length ≤ sizeLine) (hr : Room k callerA)
    (F : ∀ base : Heap, K.In base → base.Ns mainGlobals mg → HasSys base → FnG P w K mg base CX k fa fd [x] sp)
    (hbind : ∀ (s : Shared) (u : Value), BindsTo s fd ⟨[u], []⟩ [(x, u)])
    (hsp : ∀ H : Hp, Only H → SqL K H a (ns.map V.int) → sp [.ref a] H (fun v _ => v = .bl true) fun _ _ _ => False) (hCX : ∀ H e s', CX [] H s₁ (fun _ _ _ => False) e s' → False) :
    codeAny (model P w) callerA (.call (.ref fa) ⟨[.ref a], []⟩) (fun r s' => r = .ok (.ret (.bool true)) ∧ OldK s₁.heap s'.heap ∧ s'.os = s₁.os ∧ AllBare s'.gens) s₁ := by
  obtain ⟨mm, hmm⟩ := hsy
  -- a promise that asks for the modules' dict is one of those that ask for it anyway
  have core : ∀ H : Hp, Only H → sp [.ref a] H (fun v _ => v = .bl true) (fun _ _ _ => False) → HOk P w H s₁.heap → (∀ b, H b ≠ none → b = a) → (H a ≠ none → K.lookup a = none) →
      codeAny (model P w) callerA (.call (.ref fa) ⟨[.ref a], []⟩) (fun r s' => r = .ok (.ret (.bool true)) ∧ OldK s₁.heap s'.heap ∧ s'.os = s₁.os ∧ AllBare s'.gens) s₁ := by
    intro H hO hsp hok hA hK
    have off : ∀ {b : Addr} {o : Obj} {es : Array DictEntry} {ep : Nat}, s₁.heap.get? b = some o → o.data = .dict es ep → H b = none := by
      intro b o es ep e d
      apply Classical.byContradiction
      intro nb
      have eb := hA b nb
      subst eb
      rw [ha] at e
      have eo := Option.some.inj e
      subst eo
      cases (show Data.seq vs.toArray _ = Data.dict es ep from d)
    have nsB : ∀ {b : Addr} {m : Str → Option Value}, s₁.heap.Ns b m → (hidT s₁.heap H).Ns b m := by
      rintro b m ⟨o, es, ep, e, d, r⟩
      exact ⟨o, es, ep, hidT_get e (off e d), d, r⟩
    have inB : K.In (hidT s₁.heap H) := by
      intro b o e
      refine hidT_get (KX b o e) ?_
      apply Classical.byContradiction
      intro nb
      have eb := hA b nb
      subst eb
      rw [hK nb] at e
      cases e
    obtain ⟨mc, l1, l2⟩ := hlim
    have M : Mod K mg (hidT s₁.heap H) := ⟨inB, nsB hns, ⟨mb, nsB hb, hbb⟩, ⟨mc, nsB l1, l2⟩⟩
    have hs : HasSys (hidT s₁.heap H) := by
      obtain ⟨o, es, ep, e, _⟩ := nsB hmm
      exact ⟨o, e⟩
    have e0 : Env0 P w K mg (hidT s₁.heap H) callerA [] s₁ H :=
      ⟨rfl, M, fun b o e => of_hidT e, Nat.le_of_eq (hidT_size _ _), trivial, fun b hb => (nomatch (show b ∈ ([] : List Addr) from hb)), hok, .of_eq hg⟩
    have run := (F _ inB (nsB hns) hs).go callerA [] s₁ H ⟨[.ref a], []⟩ [.ref a] [.ref a] _ _ hr rfl e0 (hbind s₁ (.ref a)) (.cons rfl .nil) hsp
    apply codeAny_mono run
    intro r s' h
    rcases r with e | fl
    · exact (hCX H e s' h).elim
    · rcases fl with _ | _ | _ | u
      all_goals first
        | exact (show False from h).elim
        | skip
      obtain ⟨v, H', os, bare, un, hok', r', q⟩ := h
      cases (show v = .bl true from q)
      cases (show u = Value.bool true from r')
      refine ⟨rfl, OldK.of_keep ?_, os, bare⟩
      intro b o e
      rcases hO b with z | ⟨ob, xs, z⟩
      · exact un.keep b o e z (fun y => (nomatch (show b ∈ ([] : List Addr) from y))) (fun y => (nomatch y))
      · have e1 := (hok b _ z).1
        have e2 := (hok' b _ (un.frzs b ob _ z)).1
        rw [e] at e1
        rw [Option.some.inj e1]
        exact e2
  have rv := vals_ints hi
  have lv := hi.length
  cases hk : K.lookup a with
  | some o =>
    have e := KX a o hk
    rw [ha] at e
    have eo := (Option.some.inj e).symm
    subst eo
    have only : Only (fun _ => none) := fun _ => .inl rfl
    have sq : SqL K (fun _ => none) a (ns.map V.int) := .inr ⟨_, vs.toArray, _, hk, rfl, rfl, rfl, by rw [List.size_toArray, lv]; exact hl, by simpa using rv⟩
    exact core (fun _ => none) only (hsp _ only sq) (fun b u z => (nomatch (show (none : Option HO) = some u from z))) (fun b z => (z rfl).elim) (fun z => (z rfl).elim)
  | none =>
    let H0 : Hp := upd (fun _ => none) a (.frz { cls := .type "list", data := .seq vs.toArray } (.lst (ns.map V.int)))
    have at_a : H0 a = some (.frz { cls := .type "list", data := .seq vs.toArray } (.lst (ns.map V.int))) := upd_same
    have off : ∀ b, b ≠ a → H0 b = none := fun b n => upd_ne n
    have only : Only H0 := by
      intro b
      by_cases hb : b = a
      · subst hb
        exact .inr ⟨_, _, at_a⟩
      · exact .inl (off b hb)
    refine core H0 only (hsp _ only (.inl (.inr ⟨_, at_a⟩))) ?_ ?_ (fun _ => hk)
    · intro b u z
      by_cases hb : b = a
      · subst hb
        rw [at_a] at z
        have ez := (Option.some.inj z).symm
        subst ez
        exact ⟨ha, by rw [List.length_map]; exact hl, vs, _, rv, ha⟩
      · rw [off b hb] at z
        cases z
    · intro b z
      apply Classical.byContradiction
      intro hb
      exact z (off b hb)
end
theorem walk_ofS {l : PySem.W.OpenLaw} {n k : Nat} {q : Program} {loose : List Str} {XP : (Str → Option Value) → Heap → Prop} {YP : World → Heap → Prop} {d : DefRec} {K : Params → PySem.W.Frag} {CX : World → CXT} {sp : World → Sp} {x : Str}
    (hn : l.most = some n) (hn2 : n ≤ sizeLine) (hdf : d.params.defaults = []) (hr : Room k callerA) (him : importsNone q = true) (hY : ∀ (w : World) (h : Heap), YP w h → (K w.params).In h) (F : ∀ (w : World) (mg : Str → Option Value) (fa : Addr) (h : Heap), (K w.params).In h → h.Ns mainGlobals mg → mg d.name = some (.ref fa) → ∃ fd : FuncData, (∀ (s : Shared) (u : Value), BindsTo s fd ⟨[u], []⟩ [(x, u)]) ∧ ∀ base : Heap, (K w.params).In base → base.Ns mainGlobals mg → HasSys base → FnG l.prog w (K w.params) mg base (CX w) k fa fd [x] (sp w)) (hsp : ∀ (w : World) (H : Hp) (a : Addr) (ns : List Int), ns.length ≤ n → Only H → SqL (K w.params) H a (ns.map V.int) → sp w [.ref a] H (fun v _ => v = .bl true) fun _ _ _ => False) (hCX : ∀ (w : World) (H : Hp) (s : Shared) (e : Value) (s' : Shared), CX w [] H s (fun _ _ _ => False) e s' → False) : PySem.W.WalkO q loose XP YP l.row.toRowW d [] (fun f vs => PySem.call f vs) := by
  apply Att.attach_call hn hdf
  intro w s₀ s₁ mg mb fa o pm cd doc a vs ns G Y ho hd hcd hmg hobj hints hlen hg
  obtain ⟨fd, hb, hF⟩ := F w mg fa _ (hY w _ Y) G.T.g hmg
  have sy : ∃ mm, s₁.heap.Ns sysModules mm := by
    obtain ⟨mm, h1, _⟩ := (G.T.seer him).mods
    exact ⟨mm, h1⟩
  exact law_callS (hY w _ Y) G.T.g G.T.b G.T.builtins sy G.T.nolimit hg hobj hints (Nat.le_trans hlen hn2) hr hF hb (fun H hO hS => hsp w H a ns hlen hO hS) fun H e s' => hCX w H s₁ e s'
end OC

set_option Elab.async false
set_option linter.all false
set_option maxRecDepth 100000
/-! how rows are made: marked rows, taken off -/
namespace Lin
section
variable {p : Nat} [NeZero p]
theorem lin_pair : ∀ (fs : List (Fin p)) (us vs : List (Vec p)), us.length = vs.length → lin fs (List.zipWith addV us vs) = addV (lin fs us) (lin fs vs)
  | [], us, vs, _ => by
    rw [lin_nil, lin_nil, lin_nil]
    funext i
    show (0 : Fin p) = 0 + 0
    grind
  | f :: fs, [], [], _ => by
    show zeroV = addV zeroV zeroV
    funext i
    show (0 : Fin p) = 0 + 0
    grind
  | f :: fs, [], _ :: _, e => by cases e
  | f :: fs, _ :: _, [], e => by cases e
  | f :: fs, u :: us, v :: vs, e => by
    show addV (mulV f (addV u v)) (lin fs (List.zipWith addV us vs)) = addV (addV (mulV f u) (lin fs us)) (addV (mulV f v) (lin fs vs))
    rw [lin_pair fs us vs (Nat.succ.inj e)]
    funext i
    show f * (u i + v i) + (lin fs us i + lin fs vs i) = (f * u i + lin fs us i) + (f * v i + lin fs vs i)
    grind
def unitsV (p : Nat) [NeZero p] (o : Nat) : Nat → List (Vec p)
  | 0 => []
  | s + 1 => unitV o :: unitsV p (o + 1) s
theorem unitsV_len (o : Nat) : ∀ s, (unitsV p o s).length = s
  | 0 => rfl
  | s + 1 => by show (unitsV p (o + 1) s).length + 1 = s + 1; rw [unitsV_len (o + 1) s]
theorem lin_units : ∀ (fs : List (Fin p)) (o j : Nat), lin fs (unitsV p o fs.length) j = if o ≤ j then fs.getD (j - o) 0 else 0
  | [], o, j => by
    show (0 : Fin p) = _
    split <;> rfl
  | f :: fs, o, j => by
    show f * (if j = o then (1 : Fin p) else 0) + lin fs (unitsV p (o + 1) fs.length) j = _
    rw [lin_units fs (o + 1) j]
    rcases Nat.lt_trichotomy j o with h | h | h
    · rw [if_neg (by omega), if_neg (by omega), if_neg (by omega)]
      grind
    · subst h
      rw [if_pos rfl, if_neg (by omega), if_pos (Nat.le_refl _), Nat.sub_self]
      show f * 1 + 0 = f
      grind
    · rw [if_neg (by omega), if_pos (by omega), if_pos (by omega)]
      have e : j - o = (j - (o + 1)) + 1 := by omega
      rw [e]
      show f * 0 + fs.getD (j - (o + 1)) 0 = fs.getD (j - (o + 1)) 0
      grind
theorem lin_low {n : Nat} : ∀ (fs : List (Fin p)) (vs : List (Vec p)), (∀ v ∈ vs, ∀ i, n ≤ i → v i = 0) → ∀ i, n ≤ i → lin fs vs i = 0
  | [], vs, _, i, _ => by rw [lin_nil]; rfl
  | f :: fs, [], _, i, _ => rfl
  | f :: fs, v :: vs, h, i, hi => by
    show f * v i + lin fs vs i = 0
    rw [lin_low fs vs (fun x hx => h x (List.mem_cons_of_mem _ hx)) i hi, h v List.mem_cons_self i hi]
    grind
theorem lin_pad : ∀ (fs : List (Fin p)) (vs : List (Vec p)), ∃ gs : List (Fin p), gs.length = vs.length ∧ lin gs vs = lin fs vs
  | _, [] => ⟨[], rfl, by rw [lin_nil', lin_nil']⟩
  | [], v :: vs => by
    obtain ⟨gs, h1, h2⟩ := lin_pad [] vs
    refine ⟨0 :: gs, by rw [List.length_cons, List.length_cons, h1], ?_⟩
    show addV (mulV 0 v) (lin gs vs) = _
    rw [h2, lin_nil, lin_nil]
    funext i
    show 0 * v i + 0 = (0 : Fin p)
    grind
  | f :: fs, v :: vs => by
    obtain ⟨gs, h1, h2⟩ := lin_pad fs vs
    refine ⟨f :: gs, by rw [List.length_cons, List.length_cons, h1], ?_⟩
    show addV (mulV f v) (lin gs vs) = addV (mulV f v) (lin fs vs)
    rw [h2]
theorem lin_snoc : ∀ (fs : List (Fin p)) (vs : List (Vec p)) (c : Fin p) (v : Vec p), fs.length = vs.length → lin (fs ++ [c]) (vs ++ [v]) = addV (lin fs vs) (mulV c v)
  | [], [], c, v, _ => by
    show addV (mulV c v) zeroV = addV zeroV (mulV c v)
    funext i
    show c * v i + 0 = 0 + c * v i
    grind
  | [], _ :: _, _, _, e => by cases e
  | _ :: _, [], _, _, e => by cases e
  | f :: fs, u :: us, c, v, e => by
    show addV (mulV f u) (lin (fs ++ [c]) (us ++ [v])) = addV (addV (mulV f u) (lin fs us)) (mulV c v)
    rw [lin_snoc fs us c v (Nat.succ.inj e)]
    funext i
    show f * u i + (lin fs us i + c * v i) = f * u i + lin fs us i + c * v i
    grind
/-- no row is made by those ahead of it -/
def Free (vs : List (Vec p)) : Prop := ∀ k v, vs[k]? = some v → ¬ Spn (vs.take k) v
theorem Free.init {vs : List (Vec p)} {v : Vec p} (h : Free (vs ++ [v])) : Free vs ∧ ¬ Spn vs v := by
  constructor
  · intro k u hu
    have hk : k < vs.length := (List.getElem?_eq_some_iff.mp hu).1
    have := h k u (by rw [List.getElem?_append_left hk]; exact hu)
    rwa [List.take_append_of_le_length (by omega)] at this
  · have := h vs.length v (by rw [List.getElem?_append_right (Nat.le_refl _), Nat.sub_self]; rfl)
    rwa [List.take_append_of_le_length (Nat.le_refl _), List.take_length] at this
theorem Free.zero (inv : Fin p → Fin p) (hinv : ∀ a : Fin p, a ≠ 0 → inv a * a = 1) : ∀ (m : Nat) (vs : List (Vec p)) (fs : List (Fin p)), vs.length = m → Free vs → fs.length = vs.length → lin fs vs = zeroV → ∀ f ∈ fs, f = 0
  | 0, vs, fs, hm, _, hl, _ => by
    intro f hf
    rw [hm] at hl
    rw [List.length_eq_zero_iff.mp hl] at hf
    cases hf
  | m + 1, vs, fs, hm, hF, hl, hz => by
    obtain ⟨vs', v, rfl⟩ : ∃ vs' v, vs = vs' ++ [v] := by
      rcases List.eq_nil_or_concat vs with h | ⟨a, b, h⟩
      · rw [h] at hm; cases hm
      · exact ⟨a, b, by rw [h]; exact List.concat_eq_append⟩
    obtain ⟨fs', c, rfl⟩ : ∃ fs' c, fs = fs' ++ [c] := by
      rcases List.eq_nil_or_concat fs with h | ⟨a, b, h⟩
      · rw [h, hm] at hl; cases hl
      · exact ⟨a, b, by rw [h]; exact List.concat_eq_append⟩
    rw [List.length_append, List.length_append] at hl
    have hl' : fs'.length = vs'.length := by simpa using hl
    obtain ⟨h1, h2⟩ := hF.init
    rw [lin_snoc fs' vs' c v hl'] at hz
    have c0 : c = 0 := by
      apply Classical.byContradiction
      intro hc
      apply h2
      have hS := spn_sub vs'
      have h3 : Spn vs' (lin fs' vs') := ⟨fs', rfl⟩
      have h4 := hS.mul (-(inv c)) h3
      have e : v = mulV (-(inv c)) (lin fs' vs') := by
        funext i
        have e1 := congrFun hz i
        have e1 : lin fs' vs' i + c * v i = 0 := e1
        have e2 := hinv c hc
        show v i = -(inv c) * lin fs' vs' i
        have e3 : lin fs' vs' i = -(c * v i) := by grind
        rw [e3]
        have : inv c * c * v i = v i := by rw [e2]; grind
        grind
      rw [e]
      exact h4
    have hz' : lin fs' vs' = zeroV := by
      funext i
      have e1 := congrFun hz i
      have e1 : lin fs' vs' i + c * v i = 0 := e1
      rw [c0] at e1
      show lin fs' vs' i = 0
      grind
    intro f hf
    rcases List.mem_append.mp hf with hf | hf
    · exact Free.zero inv hinv m vs' fs' (by rw [List.length_append] at hm; simpa using hm) h1 hl' hz' f hf
    · have : f = c := by simpa using hf
      rw [this]
      exact c0
/-- the first places of marked rows are all ahead of the marks; what is left of a row that is made has noughts there -/
theorem marked_left (inv : Fin p → Fin p) (hinv : ∀ a : Fin p, a ≠ 0 → inv a * a = 1) (h1 : (1 : Fin p) ≠ 0) {n : Nat} {vs : List (Vec p)} (hw : ∀ v ∈ vs, ∀ i, n ≤ i → v i = 0) (hF : Free vs) {bs : List (Nat × Vec p)} {m : Nat} (pf : PF m bs)
    (hb : ∀ x, Spn (bs.map (·.2)) x ↔ Spn (List.zipWith addV vs (unitsV p n vs.length)) x) {x : Vec p} (hx : ∀ i, n ≤ i → x i = 0) :
    ((∀ i, i < n → leftV bs x i = 0) ↔ Spn vs x) ∧ ((∀ i, i < n → leftV bs x i = 0) → ∃ fs : List (Fin p), fs.length = vs.length ∧ x = lin fs vs ∧ ∀ j, j < vs.length → fs.getD j 0 = -(leftV bs x (n + j))) := by
  have hl : vs.length = (unitsV p n vs.length).length := (unitsV_len n vs.length).symm
  have eq : ∀ fs : List (Fin p), fs.length = vs.length → ∀ i, lin fs (List.zipWith addV vs (unitsV p n vs.length)) i = lin fs vs i + if n ≤ i then fs.getD (i - n) 0 else 0 := fun fs hf i => by
    rw [lin_pair fs vs _ hl]
    show lin fs vs i + lin fs (unitsV p n vs.length) i = _
    rw [← hf, lin_units]
  have leads : ∀ b ∈ bs, b.1 < n := fun b hbm => by
    apply Classical.byContradiction
    intro hge
    have hs := (hb b.2).mp (spn_mem (List.mem_map_of_mem hbm))
    obtain ⟨fs0, e0⟩ := hs
    obtain ⟨fs, lf, ef⟩ := lin_pad fs0 (List.zipWith addV vs (unitsV p n vs.length))
    have lz : (List.zipWith addV vs (unitsV p n vs.length)).length = vs.length := by rw [List.length_zipWith, ← hl, Nat.min_self]
    rw [lz] at lf
    have hz : lin fs vs = zeroV := by
      funext i
      show lin fs vs i = 0
      by_cases hi : n ≤ i
      · exact lin_low fs vs hw i hi
      · have := eq fs lf i
        rw [if_neg hi, ef, ← e0, pf.low b hbm i (by omega)] at this
        grind
    have fz := Free.zero inv hinv _ vs fs rfl hF lf hz
    have bz : b.2 b.1 = 0 := by
      have := eq fs lf b.1
      rw [ef, ← e0] at this
      rw [this, congrFun hz b.1]
      have gz : fs.getD (b.1 - n) 0 = 0 := by
        rw [List.getD_eq_getElem?_getD]
        cases hg : fs[b.1 - n]? with
        | none => rfl
        | some f => exact fz f (List.mem_of_getElem? hg)
      rw [gz]
      show (0 : Fin p) + (if n ≤ b.1 then 0 else 0) = 0
      split <;> grind
    rw [pf.one b hbm] at bz
    exact h1 bz
  -- what is left differs from the row by factors
  have diff : ∃ fs : List (Fin p), fs.length = vs.length ∧ ∀ i, leftV bs x i = x i - (lin fs vs i + if n ≤ i then fs.getD (i - n) 0 else 0) := by
    obtain ⟨fs0, e0⟩ := (hb (red bs x)).mp (spn_red bs x)
    obtain ⟨fs, lf, ef⟩ := lin_pad fs0 (List.zipWith addV vs (unitsV p n vs.length))
    have lz : (List.zipWith addV vs (unitsV p n vs.length)).length = vs.length := by rw [List.length_zipWith, ← hl, Nat.min_self]
    rw [lz] at lf
    refine ⟨fs, lf, fun i => ?_⟩
    show x i - red bs x i = _
    rw [← eq fs lf i, ef, ← e0]
  obtain ⟨fs, lf, hd⟩ := diff
  have sound : (∀ i, i < n → leftV bs x i = 0) → x = lin fs vs := fun hz => by
    funext i
    by_cases hi : n ≤ i
    · rw [hx i hi, lin_low fs vs hw i hi]
    · have h2 := hd i
      rw [hz i (by omega), if_neg hi] at h2
      grind
  refine ⟨⟨fun hz => ⟨fs, sound hz⟩, fun hs i hi => ?_⟩, fun hz => ⟨fs, lf, sound hz, fun j hj => ?_⟩⟩
  · obtain ⟨gs0, e0⟩ := hs
    obtain ⟨gs, lg, eg⟩ := lin_pad gs0 vs
    -- the row less what is made is noughts and the factors' contraries
    have hy : Spn (bs.map (·.2)) (lin gs (List.zipWith addV vs (unitsV p n vs.length))) := (hb _).mpr ⟨gs, rfl⟩
    have e1 : x = addV (lin gs (List.zipWith addV vs (unitsV p n vs.length))) (fun i => -(if n ≤ i then gs.getD (i - n) 0 else 0)) := by
      funext i
      show x i = lin gs (List.zipWith addV vs (unitsV p n vs.length)) i + -(if n ≤ i then gs.getD (i - n) 0 else 0)
      rw [eq gs lg i, e0, ← eg]
      grind
    have e2 : red bs x = lin gs (List.zipWith addV vs (unitsV p n vs.length)) := by
      rw [e1, red_add, pf.told hy]
      have : red bs (fun i => -(if n ≤ i then gs.getD (i - n) 0 else 0)) = zeroV := red_none bs _ fun b hbm => by
        show -(if n ≤ b.1 then gs.getD (b.1 - n) 0 else 0) = 0
        rw [if_neg (by have := leads b hbm; omega)]
        grind
      rw [this]
      funext i
      show _ + (0 : Fin p) = _
      grind
    show x i - red bs x i = 0
    rw [e2, eq gs lg i, if_neg (by omega), e0, ← eg]
    grind
  · have h2 := hd (n + j)
    rw [hx (n + j) (by omega), lin_low fs vs hw (n + j) (by omega), if_pos (by omega), show n + j - n = j by omega] at h2
    grind
end
end Lin
namespace OC
open PySem PySem.Spec PyProof.Rows L2 Lin
theorem row_noughts' {p : Int} (hp : 0 < p) (n : Nat) : (List.replicate n (0 : Int)).length = n ∧ ∀ x ∈ List.replicate n (0 : Int), 0 ≤ x ∧ x < p := ⟨List.length_replicate, fun x hx => by
  rw [List.eq_of_mem_replicate hx]
  omega⟩
def markR (s i : Nat) : List Int := List.replicate i 0 ++ [1] ++ List.replicate (s - i - 1) 0
def markedR (S : List (List Int)) : List (List Int) := (List.range S.length).map fun i => S.getD i [] ++ markR S.length i
def restR (p : Int) (n : Nat) (S : List (List Int)) (r : List Int) : List Int := leftR p (plainR p (n + S.length) (markedR S)) (r ++ List.replicate S.length 0)
def factorsR (p : Int) (m : Nat) (kts : List (Nat × Int)) : List Int := kts.foldl (fun F kt => F.set kt.1 ((-kt.2) % p)) (List.replicate m 0)
theorem markR_len {s i : Nat} (h : i < s) : (markR s i).length = s := by
  unfold markR
  rw [List.length_append, List.length_append, List.length_replicate, List.length_replicate]
  simp
  omega
theorem markR_getD {s i : Nat} (h : i < s) (j : Nat) : (markR s i).getD j 0 = if j = i then 1 else 0 := by
  unfold markR
  rw [List.getD_eq_getElem?_getD]
  rcases Nat.lt_trichotomy j i with hj | hj | hj
  · rw [if_neg (by omega), List.append_assoc, List.getElem?_append_left (by rw [List.length_replicate]; exact hj), List.getElem?_replicate, if_pos hj]
    rfl
  · subst hj
    rw [if_pos rfl, List.append_assoc, List.getElem?_append_right (by rw [List.length_replicate]; exact Nat.le_refl _), List.length_replicate, Nat.sub_self]
    rfl
  · rw [if_neg (by omega), List.getElem?_append_right (by rw [List.length_append, List.length_replicate]; simp; omega), List.length_append, List.length_replicate]
    by_cases hs : j < s
    · rw [List.getElem?_replicate, if_pos (by simp; omega)]
      rfl
    · rw [List.getElem?_replicate, if_neg (by simp; omega)]
      rfl
theorem app_getD {x y : List Int} {n : Nat} (hx : x.length = n) (j : Nat) : (x ++ y).getD j 0 = if j < n then x.getD j 0 else y.getD (j - n) 0 := by
  by_cases h : j < n
  · rw [if_pos h, List.getD_eq_getElem?_getD, List.getElem?_append_left (by omega), ← List.getD_eq_getElem?_getD]
  · rw [if_neg h, List.getD_eq_getElem?_getD, List.getElem?_append_right (by omega), hx, ← List.getD_eq_getElem?_getD]
theorem markedR_ok {p : Int} (hp : 2 ≤ p) {n : Nat} {S : List (List Int)} (h : RowsOk p n S) : RowsOk p (n + S.length) (markedR S) := fun r hr => by
  obtain ⟨i, hi, rfl⟩ := List.mem_map.mp hr
  have hi := List.mem_range.mp hi
  have hS := h (S.getD i []) (by rw [List.getD_eq_getElem?_getD, List.getElem?_eq_getElem hi]; exact List.getElem_mem hi)
  refine ⟨by rw [List.length_append, hS.1, markR_len hi], fun x hx => ?_⟩
  rcases List.mem_append.mp hx with hx | hx
  · exact hS.2 x hx
  · unfold markR at hx
    rcases List.mem_append.mp hx with hx | hx
    · rcases List.mem_append.mp hx with hx | hx
      · rw [List.eq_of_mem_replicate hx]
        omega
      · have : x = 1 := by simpa using hx
        omega
    · rw [List.eq_of_mem_replicate hx]
      omega
section
variable {q : Nat} [NeZero q]
theorem unitsV_get (o : Nat) : ∀ (s i : Nat), i < s → (unitsV q o s)[i]? = some (unitV (o + i))
  | 0, i, h => absurd h (Nat.not_lt_zero _)
  | s + 1, 0, _ => rfl
  | s + 1, i + 1, h => by
    show (unitsV q (o + 1) s)[i]? = _
    rw [unitsV_get (o + 1) s i (by omega)]
    congr 2
    omega
theorem markedR_toV (hF : Fld (q : Int)) {n : Nat} {S : List (List Int)} (h : RowsOk q n S) : (markedR S).map (toV (q := q)) = List.zipWith addV (S.map (toV (q := q))) (unitsV q n S.length) := by
  apply List.ext_getElem?
  intro i
  unfold markedR
  rw [List.map_map, List.getElem?_map]
  by_cases hi : i < S.length
  · have g1 : (List.range S.length)[i]? = some i := by rw [List.getElem?_eq_getElem (by rw [List.length_range]; exact hi), List.getElem_range]
    have g2 : (S.map (toV (q := q)))[i]? = some (toV S[i]) := by rw [List.getElem?_map, List.getElem?_eq_getElem hi]; rfl
    rw [g1, List.getElem?_zipWith, g2, unitsV_get n S.length i hi]
    show some (toV (q := q) (S.getD i [] ++ markR S.length i)) = some (addV (toV S[i]) (unitV (n + i)))
    congr 1
    have eS : S.getD i [] = S[i] := by rw [List.getD_eq_getElem?_getD, List.getElem?_eq_getElem hi]; rfl
    have hS := h S[i] (List.getElem_mem hi)
    funext j
    show cF ((S.getD i [] ++ markR S.length i).getD j 0) = cF (S[i].getD j 0) + unitV (n + i) j
    rw [eS, app_getD hS.1, markR_getD hi]
    unfold unitV
    by_cases hj : j < n
    · rw [if_pos hj, if_neg (by omega)]
      grind
    · rw [if_neg hj, gd_ge (r := S[i]) (by omega), cF_zero]
      by_cases e : j = n + i
      · rw [if_pos e, if_pos (by omega), cF_one (q2 hF)]
        grind
      · rw [if_neg e, if_neg (by omega), cF_zero]
        grind
  · rw [List.getElem?_eq_none (by rw [List.length_range]; omega), List.getElem?_eq_none (by rw [List.length_zipWith, List.length_map]; omega)]
    rfl
theorem someR_free (hF : Fld (q : Int)) {n : Nat} {rs : List (List Int)} (h : RowsOk q n rs) : Free ((someR q n rs).map (toV (q := q))) := by
  intro k v hv
  have okS := someR_ok (p := q) (n := n) h
  obtain ⟨_, _, fc⟩ := someR_all hF rs h
  have hk : k < (someR q n rs).length := by
    have := (List.getElem?_eq_some_iff.mp hv).1
    rwa [List.length_map] at this
  rw [List.getElem?_map, List.getElem?_eq_getElem hk] at hv
  have ev : v = toV (someR q n rs)[k] := (Option.some.inj hv).symm
  subst ev
  have hm : k ∈ needR q n (someR q n rs) := by rw [fc]; exact List.mem_range.mpr hk
  have hg := of_decide_eq_true (List.mem_filter.mp hm).2
  have eapp : (someR q n rs).take (k + 1) = (someR q n rs).take k ++ [(someR q n rs)[k]] := by
    rw [List.take_add_one, List.getElem?_eq_getElem hk]
    rfl
  rw [eapp] at hg
  have := (plainR_grows hF (fun x hx => okS x (List.mem_of_mem_take hx)) (rowsOk_one (okS _ (List.getElem_mem hk)))).mp hg
  unfold Mk at this
  rwa [List.map_take] at this
theorem toV_plus {x y : List Int} (h : x.length = y.length) (m : Int) : toV (q := q) (plusR q x y m) = addV (toV x) (mulV (cF m) (toV y)) := by
  funext i
  show cF ((plusR q x y m).getD i 0) = cF (x.getD i 0) + cF m * cF (y.getD i 0)
  unfold plusR
  by_cases hi : i < x.length
  · rw [getD_zipWith _ h hi, cF_mod, cF_add, cF_mul]
  · rw [gd_ge (by rw [List.length_zipWith]; omega), gd_ge (r := x) (by omega), gd_ge (r := y) (by omega), cF_zero]
    grind
theorem toV_made {n : Nat} : ∀ (rs : List (List Int)) (F z : List Int), z.length = n → (∀ r ∈ rs, r.length = n) → F.length = rs.length → toV (q := q) (madeR q z (rs.zip F)) = addV (toV z) (lin (F.map (cF (q := q))) (rs.map (toV (q := q))))
  | [], [], z, _, _, _ => by
    funext i
    show toV z i = toV z i + 0
    grind
  | [], _ :: _, _, _, _, e => by cases e
  | _ :: _, [], _, _, _, e => by cases e
  | r :: rs, f :: F, z, hz, hr, e => by
    show toV (q := q) (madeR q (plusR q z r f) (rs.zip F)) = _
    have lz : z.length = r.length := by rw [hz, hr r List.mem_cons_self]
    rw [toV_made rs F (plusR q z r f) (by rw [plus_len lz]; exact hz) (fun x hx => hr x (List.mem_cons_of_mem _ hx)) (Nat.succ.inj e), toV_plus lz]
    funext i
    show toV z i + cF f * toV r i + lin (F.map cF) (rs.map toV) i = toV z i + (cF f * toV r i + lin (F.map cF) (rs.map toV) i)
    grind
theorem lin_set : ∀ (F : List (Fin q)) (vs : List (Vec q)) (k : Nat) (c : Fin q) (v : Vec q), F.length = vs.length → F[k]? = some 0 → vs[k]? = some v → lin (F.set k c) vs = addV (lin F vs) (mulV c v)
  | [], _, _, _, _, _, h, _ => by simp at h
  | _ :: _, [], _, _, _, e, _, _ => by cases e
  | f :: F, u :: us, 0, c, v, e, h1, h2 => by
    have h1 : f = 0 := Option.some.inj h1
    have h2 : u = v := Option.some.inj h2
    subst h1 h2
    show addV (mulV c u) (lin F us) = addV (addV (mulV 0 u) (lin F us)) (mulV c u)
    funext i
    show c * u i + lin F us i = 0 * u i + lin F us i + c * u i
    grind
  | f :: F, u :: us, k + 1, c, v, e, h1, h2 => by
    show addV (mulV f u) (lin (F.set k c) us) = addV (addV (mulV f u) (lin F us)) (mulV c v)
    rw [lin_set F us k c v (Nat.succ.inj e) h1 h2]
    funext i
    show f * u i + (lin F us i + c * v i) = f * u i + lin F us i + c * v i
    grind
/-- the factors of the needed rows, set at their numbers -/
theorem lin_sets (vs : List (Vec q)) : ∀ (kts : List (Nat × Int)) (F : List Int), F.length = vs.length → (∀ kt ∈ kts, kt.1 < vs.length ∧ F[kt.1]? = some 0) → (kts.map (·.1)).Nodup →
    lin ((kts.foldl (fun F kt => F.set kt.1 ((-kt.2) % q)) F).map (cF (q := q))) vs = addV (lin (F.map (cF (q := q))) vs) (lin (kts.map fun kt => -(cF (q := q) kt.2)) (kts.map fun kt => vs.getD kt.1 zeroV))
  | [], F, _, _, _ => by
    funext i
    show _ = _ + (0 : Fin q)
    show lin (F.map cF) vs i = lin (F.map cF) vs i + 0
    grind
  | kt :: kts, F, hl, h, nd => by
    obtain ⟨h1, h2⟩ := h kt List.mem_cons_self
    rw [List.map_cons, List.nodup_cons] at nd
    show lin ((kts.foldl (fun F kt => F.set kt.1 ((-kt.2) % q)) (F.set kt.1 ((-kt.2) % q))).map (cF (q := q))) vs = _
    rw [lin_sets vs kts (F.set kt.1 ((-kt.2) % q)) (by rw [List.length_set]; exact hl) (fun x hx => by
      refine ⟨(h x (List.mem_cons_of_mem _ hx)).1, ?_⟩
      rw [List.getElem?_set_ne (fun e => nd.1 (by rw [e]; exact List.mem_map_of_mem hx))]
      exact (h x (List.mem_cons_of_mem _ hx)).2) nd.2]
    rw [List.map_set, lin_set (F.map cF) vs kt.1 _ (vs.getD kt.1 zeroV) (by rw [List.length_map]; exact hl) (by rw [List.getElem?_map, h2]; show some (cF 0) = _; rw [cF_zero]) (by rw [List.getD_eq_getElem?_getD, List.getElem?_eq_getElem h1]; rfl), cF_mod, cF_neg]
    funext i
    show lin (F.map cF) vs i + -cF kt.2 * vs.getD kt.1 zeroV i + lin _ _ i = lin (F.map cF) vs i + (-cF kt.2 * vs.getD kt.1 zeroV i + lin _ _ i)
    grind
theorem someR_get (n : Nat) (rs : List (List Int)) : (someR q n rs).map (toV (q := q)) = (needR q n rs).map fun k => (rs.map (toV (q := q))).getD k zeroV := by
  unfold someR
  rw [List.map_map]
  apply List.map_congr_left
  intro k hk
  have hk' := needR_lt hk
  show toV (q := q) (rs.getD k []) = (rs.map (toV (q := q))).getD k zeroV
  rw [List.getD_eq_getElem?_getD, List.getD_eq_getElem?_getD, List.getElem?_map, List.getElem?_eq_getElem hk']
  rfl
theorem replicate_app_ok {n s : Nat} {r : List Int} (hp : 0 < (q : Int)) (hr : RowsOk q n [r]) : RowsOk q (n + s) [r ++ List.replicate s 0] := by
  have h := hr r List.mem_cons_self
  refine rowsOk_one ⟨by rw [List.length_append, h.1, List.length_replicate], fun x hx => ?_⟩
  rcases List.mem_append.mp hx with hx | hx
  · exact h.2 x hx
  · rw [List.eq_of_mem_replicate hx]
    omega
/-- what makes tells -/
theorem makes_facts (hF : Fld (q : Int)) {n : Nat} {rs : List (List Int)} (h : RowsOk q n rs) {r : List Int} (hr : RowsOk q n [r]) :
    ((∀ x ∈ (restR q n (someR q n rs) r).take n, x = 0) ↔ hasR q n rs r = true) ∧ ((∀ x ∈ (restR q n (someR q n rs) r).take n, x = 0) → madeR q (List.replicate n 0) (rs.zip (factorsR q rs.length ((needR q n rs).zip ((restR q n (someR q n rs) r).drop n)))) = r) := by
  have okS := someR_ok (p := q) (n := n) h
  have okr := hr r List.mem_cons_self
  have okM := markedR_ok hF.1 okS
  have okx := replicate_app_ok (s := (someR q n rs).length) q_pos hr
  obtain ⟨mkS, _, _⟩ := someR_all hF rs h
  have lenk : (needR q n rs).length = (someR q n rs).length := needR_len _ _ _
  have fr := someR_free hF h
  have gs := someR_get (q := q) n rs
  unfold restR
  generalize hS : someR q n rs = S at *
  obtain ⟨bs, pf, eb, okl, et⟩ := (plainR_pf hF okM).left hF okx
  have okl := okl _ List.mem_cons_self
  have hb : ∀ x, Spn (bs.map (·.2)) x ↔ Spn (List.zipWith addV (S.map (toV (q := q))) (unitsV q n (S.map (toV (q := q))).length)) x := fun x => by
    rw [eb, List.length_map, ← markedR_toV hF okS]
    exact plainR_mk hF okM x
  have ex : toV (q := q) (r ++ List.replicate S.length 0) = toV r := by
    funext j
    show cF ((r ++ List.replicate S.length 0).getD j 0) = cF (r.getD j 0)
    rw [app_getD okr.1]
    by_cases hj : j < n
    · rw [if_pos hj]
    · rw [if_neg hj, gd_ge (r := r) (by omega)]
      congr 1
      rw [List.getD_eq_getElem?_getD, List.getElem?_replicate]
      split <;> rfl
  rw [ex] at et
  obtain ⟨m1, m2⟩ := marked_left invF (invF_ok hF) (one_ne (q2 hF)) (fun v hv i hi => by
    obtain ⟨x, mx, rfl⟩ := List.mem_map.mp hv
    exact toV_wid (okS x mx).1 i hi) fr pf hb (x := toV r) (fun i hi => toV_wid okr.1 i hi)
  generalize leftR q (plainR q (n + S.length) (markedR S)) (r ++ List.replicate S.length 0) = t at okl et
  have tz : (∀ x ∈ t.take n, x = 0) ↔ ∀ i, i < n → leftV bs (toV r) i = 0 := by
    constructor
    · intro hz i hi
      rw [← et]
      refine (toV_eq0 okl.2 i).mpr ?_
      rw [gd_lt (by omega)]
      refine hz _ ?_
      rw [List.mem_iff_getElem?]
      exact ⟨i, by rw [List.getElem?_take, if_pos hi, List.getElem?_eq_getElem (by omega)]⟩
    · intro hz x hx
      obtain ⟨i, hi⟩ := List.mem_iff_getElem?.mp hx
      rw [List.getElem?_take] at hi
      by_cases hin : i < n
      · rw [if_pos hin] at hi
        have := hz i hin
        rw [← et] at this
        have := (toV_eq0 okl.2 i).mp this
        rw [List.getD_eq_getElem?_getD, hi] at this
        exact this
      · rw [if_neg hin] at hi
        cases hi
  have hh : hasR q n rs r = true ↔ Mk q rs (toV r) := by
    unfold hasR
    rw [decide_eq_true_iff]
    exact plainR_has hF h hr
  refine ⟨by rw [tz, m1, hh]; exact mkS (toV r), fun hz => ?_⟩
  obtain ⟨fs, lf, e1, e2⟩ := m2 (tz.mp hz)
  rw [List.length_map] at lf e2
  -- the factors told
  have lt : (t.drop n).length = S.length := by rw [List.length_drop, okl.1]; omega
  have lzip : ((needR q n rs).zip (t.drop n)).length = S.length := by rw [List.length_zip, lenk, lt, Nat.min_self]
  have lF : ∀ (kts : List (Nat × Int)) (F : List Int), (kts.foldl (fun F kt => F.set kt.1 ((-kt.2) % q)) F).length = F.length := by
    intro kts
    induction kts with
    | nil => intro F; rfl
    | cons kt kts ih => intro F; show (kts.foldl _ (F.set kt.1 _)).length = _; rw [ih, List.length_set]
  have okz := row_noughts' (p := (q : Int)) q_pos n
  have hlen : (factorsR q rs.length ((needR q n rs).zip (t.drop n))).length = rs.length := by
    unfold factorsR
    rw [lF, List.length_replicate]
  have em := toV_made (q := q) rs (factorsR q rs.length ((needR q n rs).zip (t.drop n))) (List.replicate n 0) List.length_replicate (fun x hx => (h x hx).1) hlen
  have el := lin_sets (q := q) (rs.map (toV (q := q))) ((needR q n rs).zip (t.drop n)) (List.replicate rs.length 0) (by rw [List.length_replicate, List.length_map]) (fun kt hkt => by
    have hk := needR_lt (List.of_mem_zip hkt).1
    exact ⟨by rw [List.length_map]; exact hk, by rw [List.getElem?_replicate, if_pos hk]⟩) (by
    rw [List.map_fst_zip (by omega)]
    exact (List.nodup_range).filter _)
  have ez : lin ((List.replicate rs.length (0 : Int)).map (cF (q := q))) (rs.map (toV (q := q))) = zeroV := by
    have : ∀ (m : Nat) (vs : List (Vec q)), lin ((List.replicate m (0 : Int)).map (cF (q := q))) vs = zeroV := by
      intro m
      induction m with
      | zero => intro vs; exact lin_nil vs
      | succ m ih =>
        intro vs
        cases vs with
        | nil => exact lin_nil' _
        | cons v vs =>
          rw [List.replicate_succ, List.map_cons]
          show addV (mulV (cF 0) v) (lin _ vs) = zeroV
          rw [ih vs, cF_zero]
          funext i
          show 0 * v i + 0 = (0 : Fin q)
          grind
    exact this _ _
  have e3 : ((needR q n rs).zip (t.drop n)).map (fun kt => -(cF (q := q) kt.2)) = fs := by
    apply List.ext_getElem?
    intro i
    rw [List.getElem?_map]
    by_cases hi : i < S.length
    · have g1 : (t.drop n)[i]? = some (t.getD (n + i) 0) := by
        rw [List.getElem?_drop, List.getElem?_eq_getElem (by omega), gd_lt (by omega)]
      have g0 : (needR q n rs)[i]? = some (needR q n rs)[i] := List.getElem?_eq_getElem (by omega)
      have gz : ((needR q n rs).zip (t.drop n))[i]? = some ((needR q n rs)[i], t.getD (n + i) 0) := by
        rw [List.getElem?_zip_eq_some]
        exact ⟨g0, g1⟩
      rw [gz, List.getElem?_eq_getElem (by omega)]
      have := e2 i hi
      rw [← et] at this
      rw [List.getD_eq_getElem?_getD, List.getElem?_eq_getElem (show i < fs.length by omega)] at this
      show some (-(cF (q := q) (t.getD (n + i) 0))) = some fs[i]
      congr 1
      exact this.symm
    · rw [List.getElem?_eq_none (by omega), List.getElem?_eq_none (by omega)]
      rfl
  have e4 : ((needR q n rs).zip (t.drop n)).map (fun kt => (rs.map (toV (q := q))).getD kt.1 zeroV) = S.map (toV (q := q)) := by
    rw [gs, ← List.map_fst_zip (l₁ := needR q n rs) (l₂ := t.drop n) (by omega), List.map_map]
    rw [List.map_fst_zip (by omega)]
    rfl
  refine toV_inj ?_ ?_ okr.2 ?_
  · rw [made_len q n _ _ List.length_replicate fun x hx => (h x.1 (List.of_mem_zip hx).1).1, okr.1]
  · exact made_ok q_pos _ _ okz.2
  · rw [em]
    unfold factorsR
    rw [el, ez, e3, e4, ← e1]
    funext i
    have : toV (q := q) (List.replicate n (0 : Int)) i = 0 := by
      show cF ((List.replicate n (0 : Int)).getD i 0) = 0
      rw [List.getD_eq_getElem?_getD, List.getElem?_replicate]
      split
      · exact cF_zero
      · exact cF_zero
    show toV (List.replicate n 0) i + (0 + toV r i) = toV r i
    rw [this]
    grind
end
end OC

set_option Elab.async false
set_option linter.all false
set_option maxRecDepth 100000
set_option maxHeartbeats 2000000
namespace OC
open PySem PySem.Spec PyProof.Rows L2
/-! ### a tuple taken no times -/
theorem tuple_mul0 (l : Addr) (its : Array Value) (m : Nat) (od : Option Addr) (so : Array (Option Value)) (u : Tok) (hne : its.isEmpty = false) :
    Meets (Builtin.«tuple.__mul__» ⟨[.ref l, .int 0 u], []⟩) (fun _ R s => s.heap.get? l = some { cls := .type "tuple", dict := od, data := .seq its m, slots := so } ∧ R (.ok (.ret (Value.ref s.heap.objs.size))) { s with heap := s.heap.push { cls := Value.type "tuple", data := Data.seq #[] }, toks := s.toks }) := by
  refine .of_wp fun prog w A R s hh => ?_
  obtain ⟨hp, g, d, tk, os⟩ := s
  obtain ⟨hl, hR⟩ := hh
  have fi := AutoSeq1.idx_int
  have c0 : (decide ((0 : Int) < -(2 ^ 63)) || decide ((0 : Int) ≥ 2 ^ 63)) = false := by decide
  have c1 : (its.isEmpty || (0 : Int) == 1) = false := by rw [hne]; rfl
  have c2 : (decide ((0 : Int) ≤ 0) || its.isEmpty) = true := by simp
  wp_walk using wpAny_loadPart' hl
  first
    | exact ⟨_, rfl, hR⟩
    | (repeat (first
        | (refine wpAny_ite_false (decide_eq_false (by rw [c0]; exact Bool.false_ne_true)) ?_; wp_walk using wpAny_loadPart' hl)
        | (refine wpAny_ite_false (decide_eq_false (by rw [c1]; exact Bool.false_ne_true)) ?_; wp_walk using wpAny_loadPart' hl)
        | (refine wpAny_ite_true (decide_eq_true (by rw [c2])) ?_; wp_walk using wpAny_loadPart' hl))
       exact ⟨_, rfl, hR⟩)
/-- t * n, n from 0 on, whichever tuple it is -/
def rRepZ (K : PySem.W.Frag) : R2 := fun x y H Q => ∃ l k xs, x = .ref l ∧ y = .int k ∧ SqT K H l xs ∧ xs ≠ [] ∧ 0 ≤ k ∧ k ≤ 1000 ∧ xs.length ≤ 1000 ∧ ∀ p H', Same H H' → SqT K H' p (List.replicate k.toNat xs).flatten → Q (.ref p) H'
theorem op_repZ {X : Cx} : OpR X (binaryOp .Mult) (rRepZ X.K) := by
  intro pins s σ H x y v u Q I rx ry h
  obtain ⟨l, k, xs, ex, ey, hT, hne, h1, h2, hz, q⟩ := h
  by_cases hk : k = 0
  · subst hk ex ey
    cases rx
    obtain ⟨t, rfl⟩ := ry
    obtain ⟨its, r, ⟨⟨cls, dd, data, sl⟩, ho, hc, n, hd⟩, hs⟩ := I.tuple hT
    simp only at hc hd
    subst hc hd
    have hi : its.toArray.isEmpty = false := by
      cases its with
      | nil => exact absurd (List.eq_nil_of_length_eq_zero (by rw [r.length]; rfl)) hne
      | cons a b => rfl
    refine wpAny_binaryOp_repeat_ref (T := "tuple") (U := "int") (by decide) ⟨_, ho, rfl⟩ (fun s' => typeIs_int s' 0 t) noFill_tuple_mul F.fills_int_mul F.slot_int_rmul repeat_tuple F.slot_int_index.lookup ?_
    refine call_meets F.slot_int_rmul (typeIs_int s 0 t) F.entry_int_rmul (F.args_int_rmul_2 _ _) (int_rmul_tuple 0 t l its.toArray n dd sl) ⟨ho, rfl, ⟨_, ho, rfl⟩, ?_⟩
    refine call_meets F.slot_tuple_mul ⟨_, ho, rfl⟩ F.entry_tuple_mul (F.args_tuple_mul_2 _ _) (tuple_mul0 l its.toArray n dd sl t hi) ⟨ho, ?_⟩
    have fr := I.hok.fresh (Nat.le_refl s.heap.objs.size)
    exact ⟨.ref s.heap.objs.size, _, I.laid (t' := s.toks) (o := .tup []) (fun b ob z => Heap.get?_push_of_some _ z) (Nat.le_refl _) ⟨Nat.zero_le _, [], .nil, IsTup.new _ _⟩, rfl, q _ _ (same_upd fr) (.inl (.inl upd_same))⟩
  · exact op_repB pins s σ H x y v u Q I rx ry ⟨l, k, xs, ex, ey, hT, hne, by omega, h2, hz, q⟩
theorem makesI {p : Int} (hF : Fld p) {n : Nat} {rs : List (List Int)} (h : RowsOk p n rs) {r : List Int} (hr : RowsOk p n [r]) :
    ((∀ x ∈ (restR p n (someR p n rs) r).take n, x = 0) ↔ hasR p n rs r = true) ∧ ((∀ x ∈ (restR p n (someR p n rs) r).take n, x = 0) → madeR p (List.replicate n 0) (rs.zip (factorsR p rs.length ((needR p n rs).zip ((restR p n (someR p n rs) r).drop n)))) = r) := by
  obtain ⟨q, rfl, _, hF⟩ := to_q hF
  exact makes_facts hF h hr
theorem factorsR_len (p : Int) (m : Nat) (kts : List (Nat × Int)) : (factorsR p m kts).length = m := by
  have lF : ∀ (kts : List (Nat × Int)) (F : List Int), (kts.foldl (fun F kt => F.set kt.1 ((-kt.2) % p)) F).length = F.length := by
    intro kts
    induction kts with
    | nil => intro F; rfl
    | cons kt kts ih => intro F; show (kts.foldl _ (F.set kt.1 _)).length = _; rw [ih, List.length_set]
  unfold factorsR
  rw [lF, List.length_replicate]
theorem factorsR_ok {p : Int} (hp : 0 < p) (m : Nat) (kts : List (Nat × Int)) : ∀ x ∈ factorsR p m kts, 0 ≤ x ∧ x < p := by
  have lF : ∀ (kts : List (Nat × Int)) (F : List Int), (∀ x ∈ F, 0 ≤ x ∧ x < p) → ∀ x ∈ kts.foldl (fun F kt => F.set kt.1 ((-kt.2) % p)) F, 0 ≤ x ∧ x < p := by
    intro kts
    induction kts with
    | nil => intro F h; exact h
    | cons kt kts ih =>
      intro F h
      refine ih _ fun x hx => ?_
      rcases List.mem_or_eq_of_mem_set hx with hx | rfl
      · exact h x hx
      · exact ⟨Int.emod_nonneg _ (by omega), Int.emod_lt_of_pos _ hp⟩
  refine lF kts _ fun x hx => ?_
  rw [List.eq_of_mem_replicate hx]
  omega
theorem factorsR_take {p : Int} {m i : Nat} {kts : List (Nat × Int)} {kt : Nat × Int} (h : kts[i]? = some kt) : factorsR p m (kts.take (i + 1)) = (factorsR p m (kts.take i)).set kt.1 ((-kt.2) % p) := by
  unfold factorsR
  rw [List.take_add_one, h, List.foldl_append]
  rfl
def sp_needed (K : PySem.W.Frag) : Sp := fun vs H Q _ => ∃ (a : Addr) (ws : List V) (rs : List (List Int)) (p : Int) (n : Nat), vs = [.int p, .int (n : Int), .ref a] ∧ SqT K H a ws ∧ DpAll K H ws (rs.map rowD) ∧ rs.length ≤ 100 ∧ RowsOk p n rs ∧ Fld p ∧ p ≤ 1000 ∧ n ≤ 100 ∧
  ∀ (H' : Hp) (l : Addr), Same H H' → H' l = some (.tup (numsV (needR p n rs))) → Q (.ref l) H'
end OC

set_option Elab.async false
set_option linter.all false
set_option maxRecDepth 100000
set_option maxHeartbeats 4000000
/-! the text of a tuple of rows tells the rows -/
namespace OC
open PySem PySem.Spec PyProof.Rows L2
/-- behind the first part -/
def Rn : List (List Nat) → List Nat
  | [] => [41]
  | u :: us => 44 :: 32 :: (u ++ Rn us)
/-- a tuple's signs out of its parts' -/
def Tn : List (List Nat) → List Nat
  | [] => [40, 41]
  | [u] => 40 :: (u ++ [44, 41])
  | u :: v :: us => 40 :: (u ++ Rn (v :: us))
def Tl (s : List Nat) : Prop := ∀ c r, s = c :: r → c = 44 ∨ c = 41
structure Gd (G : List Nat → Prop) : Prop where
  free : ∀ u v s s', G u → G v → Tl s → Tl s' → u ++ s = v ++ s' → u = v ∧ s = s'
  head : ∀ u, G u → ∃ c r, u = c :: r ∧ c ≠ 41
theorem rn_tl (us : List (List Nat)) (s : List Nat) : Tl (Rn us ++ s) := fun c r h => by
  cases us with
  | nil => right; simp [Rn] at h; exact h.1.symm
  | cons u us => left; simp [Rn] at h; exact h.1.symm
theorem rn_inj {G : List Nat → Prop} (g : Gd G) : ∀ (us vs : List (List Nat)) (s s' : List Nat), (∀ u ∈ us, G u) → (∀ v ∈ vs, G v) → Rn us ++ s = Rn vs ++ s' → us = vs ∧ s = s'
  | [], [], s, s', _, _, h => by simp [Rn] at h; exact ⟨rfl, h⟩
  | [], v :: vs, s, s', _, _, h => by simp [Rn] at h
  | u :: us, [], s, s', _, _, h => by simp [Rn] at h
  | u :: us, v :: vs, s, s', hu, hv, h => by
    simp only [Rn, List.cons_append, List.cons.injEq, true_and, List.append_assoc] at h
    obtain ⟨e1, e2⟩ := g.free _ _ _ _ (hu u List.mem_cons_self) (hv v List.mem_cons_self) (rn_tl us s) (rn_tl vs s') h
    obtain ⟨e3, e4⟩ := rn_inj g us vs s s' (fun x hx => hu x (List.mem_cons_of_mem _ hx)) (fun x hx => hv x (List.mem_cons_of_mem _ hx)) e2
    exact ⟨by rw [e1, e3], e4⟩
theorem tn_inj {G : List Nat → Prop} (g : Gd G) (us vs : List (List Nat)) (s s' : List Nat) (hu : ∀ u ∈ us, G u) (hv : ∀ v ∈ vs, G v) (h : Tn us ++ s = Tn vs ++ s') : us = vs ∧ s = s' := by
  have tl1 : ∀ s : List Nat, Tl ([44, 41] ++ s) := fun s c r h => by left; simp at h; exact h.1.symm
  match us, vs with
  | [], [] => simp [Tn] at h; exact ⟨rfl, h⟩
  | [], [v] =>
    obtain ⟨c, r, e, n⟩ := g.head v (hv v List.mem_cons_self)
    subst e
    simp [Tn] at h
    exact absurd h.1.symm n
  | [], v :: w :: vs =>
    obtain ⟨c, r, e, n⟩ := g.head v (hv v List.mem_cons_self)
    subst e
    simp [Tn] at h
    exact absurd h.1.symm n
  | [u], [] =>
    obtain ⟨c, r, e, n⟩ := g.head u (hu u List.mem_cons_self)
    subst e
    simp [Tn] at h
    exact absurd h.1 n
  | u :: w :: us, [] =>
    obtain ⟨c, r, e, n⟩ := g.head u (hu u List.mem_cons_self)
    subst e
    simp [Tn] at h
    exact absurd h.1 n
  | [u], [v] =>
    simp only [Tn, List.cons_append, List.cons.injEq, true_and, List.append_assoc] at h
    obtain ⟨e1, e2⟩ := g.free _ _ _ _ (hu u List.mem_cons_self) (hv v List.mem_cons_self) (tl1 s) (tl1 s') h
    simp at e2
    exact ⟨by rw [e1], e2⟩
  | [u], v :: w :: vs =>
    simp only [Tn, List.cons_append, List.cons.injEq, true_and, List.append_assoc] at h
    obtain ⟨e1, e2⟩ := g.free _ _ _ _ (hu u List.mem_cons_self) (hv v List.mem_cons_self) (tl1 s) (rn_tl _ s') h
    simp [Rn] at e2
  | u :: w :: us, [v] =>
    simp only [Tn, List.cons_append, List.cons.injEq, true_and, List.append_assoc] at h
    obtain ⟨e1, e2⟩ := g.free _ _ _ _ (hu u List.mem_cons_self) (hv v List.mem_cons_self) (rn_tl _ s) (tl1 s') h
    simp [Rn] at e2
  | u :: w :: us, v :: x :: vs =>
    simp only [Tn, List.cons_append, List.cons.injEq, true_and, List.append_assoc] at h
    obtain ⟨e1, e2⟩ := g.free _ _ _ _ (hu u List.mem_cons_self) (hv v List.mem_cons_self) (rn_tl _ s) (rn_tl _ s') h
    obtain ⟨e3, e4⟩ := rn_inj g (w :: us) (x :: vs) s s' (fun x hx => hu x (List.mem_cons_of_mem _ hx)) (fun x hx => hv x (List.mem_cons_of_mem _ hx)) e2
    exact ⟨by rw [e1, e3], e4⟩
/-- figures -/
def Fg (u : List Nat) : Prop := u ≠ [] ∧ ∀ c ∈ u, 48 ≤ c ∧ c ≤ 57
theorem fg_gd : Gd Fg := by
  refine ⟨fun u => ?_, fun u h => ?_⟩
  · intro v s s' hu hv ts ts' h
    replace hu := hu.2
    replace hv := hv.2
    induction u generalizing v with
    | nil =>
      cases v with
      | nil => exact ⟨rfl, h⟩
      | cons c v =>
        have := hv c List.mem_cons_self
        rcases ts c (v ++ s') h with h | h <;> omega
    | cons c u ih =>
      cases v with
      | nil =>
        have := hu c List.mem_cons_self
        rcases ts' c (u ++ s) h.symm with h | h <;> omega
      | cons d v =>
        simp only [List.cons_append, List.cons.injEq] at h
        obtain ⟨e1, e2⟩ := ih v h.2 (fun x hx => hu x (List.mem_cons_of_mem _ hx)) fun x hx => hv x (List.mem_cons_of_mem _ hx)
        exact ⟨by rw [h.1, e1], e2⟩
  · obtain ⟨h1, h2⟩ := h
    cases u with
    | nil => exact absurd rfl h1
    | cons c r =>
      have := h2 c List.mem_cons_self
      exact ⟨c, r, rfl, by omega⟩
def Tg (u : List Nat) : Prop := ∃ us, (∀ x ∈ us, Fg x) ∧ u = Tn us
theorem tn_head (us : List (List Nat)) : ∃ r, Tn us = 40 :: r := by
  match us with
  | [] => exact ⟨_, rfl⟩
  | [u] => exact ⟨_, rfl⟩
  | u :: v :: us => exact ⟨_, rfl⟩
theorem tg_gd : Gd Tg := by
  refine ⟨fun u v s s' hu hv _ _ h => ?_, fun u h => ?_⟩
  · obtain ⟨us, h1, rfl⟩ := hu
    obtain ⟨vs, h2, rfl⟩ := hv
    obtain ⟨e1, e2⟩ := tn_inj fg_gd us vs s s' h1 h2 h
    exact ⟨by rw [e1], e2⟩
  · obtain ⟨us, h1, rfl⟩ := h
    obtain ⟨r, e⟩ := tn_head us
    exact ⟨40, r, e, by decide⟩
def enc (d : PyData) : List Nat := d.shown.cps.toList
theorem sg_sep : ((", " : String) : Str).cps.toList = [44, 32] := by decide
theorem sg_lp : (("(" : String) : Str).cps.toList = [40] := by decide
theorem enc_join : ∀ (x : Str) (ts : List Str), (Str.join ", " (x :: ts)).cps.toList ++ [41] = x.cps.toList ++ Rn (ts.map fun t => t.cps.toList)
  | x, [] => by simp [join_one, Rn]
  | x, y :: r => by
    rw [join_cons_cons, cps_toList_append, cps_toList_append, sg_sep, List.append_assoc, enc_join y r]
    simp [Rn]
theorem enc_tup (ds : List PyData) : enc (.tuple ds) = Tn (ds.map enc) := by
  unfold enc
  rw [PyData.shown_tuple, cps_toList_append, cps_toList_append, sg_lp, signs_tuple_end, shownAll_map]
  match ds with
  | [] => rfl
  | [d] => rw [if_pos (show ([d].length == 1) = true from rfl)]; rfl
  | d :: e :: r =>
    rw [if_neg (by simp), List.map_cons, List.append_assoc, enc_join, List.map_map]
    rfl
theorem enc_int (i : Nat) : enc (.int (i : Int)) = (Nat.toDigits 10 i).map Char.toNat := by
  unfold enc
  rw [PyData.shown_int]
  show (Str.ofString (toString (i : Int))).cps.toList = _
  rw [signs_ofString, show toString (i : Int) = Nat.repr i from rfl, Nat.toList_repr]
def decN (u : List Nat) : Nat := u.foldl (fun a c => a * 10 + (c - 48)) 0
theorem dec_all : (List.range 1000).all (fun i => decide (decN ((Nat.toDigits 10 i).map Char.toNat) = i) && !((Nat.toDigits 10 i).map Char.toNat).isEmpty && ((Nat.toDigits 10 i).map Char.toNat).all fun c => decide (48 ≤ c) && decide (c ≤ 57)) = true := by decide +kernel
theorem enc_small {i : Int} (h0 : 0 ≤ i) (h1 : i < 1000) : decN (enc (.int i)) = i.toNat ∧ Fg (enc (.int i)) := by
  obtain ⟨k, rfl⟩ := Int.eq_ofNat_of_zero_le h0
  have := List.all_eq_true.mp dec_all k (List.mem_range.mpr (by omega))
  rw [enc_int]
  simp only [Bool.and_eq_true, decide_eq_true_eq, List.all_eq_true] at this
  exact ⟨by rw [this.1.1]; rfl, by have := this.1.2; intro e; rw [e] at this; exact absurd this (by decide), fun c hc => this.2 c hc⟩
theorem map_inj_on {α β : Type} (f : α → β) : ∀ (xs ys : List α), (∀ x ∈ xs, ∀ y ∈ ys, f x = f y → x = y) → xs.map f = ys.map f → xs = ys
  | [], [], _, _ => rfl
  | [], _ :: _, _, h => by simp at h
  | _ :: _, [], _, h => by simp at h
  | x :: xs, y :: ys, hf, h => by
    simp only [List.map_cons, List.cons.injEq] at h
    rw [hf x List.mem_cons_self y List.mem_cons_self h.1, map_inj_on f xs ys (fun a ha b hb => hf a (List.mem_cons_of_mem _ ha) b (List.mem_cons_of_mem _ hb)) h.2]
theorem enc_row (r : List Int) : enc (rowD r) = Tn (r.map fun x => enc (.int x)) := by
  show enc (.tuple (r.map PyData.int)) = _
  rw [enc_tup, List.map_map]
  rfl
theorem row_fg {p : Int} (hp : p ≤ 1000) {r : List Int} (h : ∀ x ∈ r, 0 ≤ x ∧ x < p) : ∀ u ∈ r.map fun x => enc (.int x), Fg u := fun u hu => by
  obtain ⟨x, mx, rfl⟩ := List.mem_map.mp hu
  have := h x mx
  exact (enc_small this.1 (by omega)).2
theorem enc_row_inj {p : Int} (hp : p ≤ 1000) {r s : List Int} (hr : ∀ x ∈ r, 0 ≤ x ∧ x < p) (hs : ∀ x ∈ s, 0 ≤ x ∧ x < p) (h : enc (rowD r) = enc (rowD s)) : r = s := by
  rw [enc_row, enc_row] at h
  have := (tn_inj fg_gd _ _ [] [] (row_fg hp hr) (row_fg hp hs) (by rw [h])).1
  refine map_inj_on _ _ _ (fun x mx y my e => ?_) this
  have h1 := hr x mx
  have h2 := hs y my
  have e1 := (enc_small h1.1 (by omega)).1
  have e2 := (enc_small h2.1 (by omega)).1
  rw [e] at e1
  omega
theorem shown_rows_inj {p : Int} {n : Nat} (hp : p ≤ 1000) {rs ss : List (List Int)} (hr : RowsOk p n rs) (hs : RowsOk p n ss) (h : (PyData.tuple (rs.map rowD)).shown = (PyData.tuple (ss.map rowD)).shown) : rs = ss := by
  have h : enc (.tuple (rs.map rowD)) = enc (.tuple (ss.map rowD)) := by unfold enc; rw [h]
  rw [enc_tup, enc_tup, List.map_map, List.map_map] at h
  have tg : ∀ (ts : List (List Int)), RowsOk p n ts → ∀ u ∈ ts.map (enc ∘ rowD), Tg u := fun ts ht u hu => by
    obtain ⟨r, mr, rfl⟩ := List.mem_map.mp hu
    exact ⟨_, row_fg hp (ht r mr).2, enc_row r⟩
  have := (tn_inj tg_gd _ _ [] [] (tg rs hr) (tg ss hs) (by rw [h])).1
  exact map_inj_on _ _ _ (fun x mx y my e => enc_row_inj hp (hr x mx).2 (hs y my).2 e) this
end OC

set_option Elab.async false
set_option linter.all false
set_option maxRecDepth 100000
set_option maxHeartbeats 4000000
/-! what rows make, by p -/
namespace OC
open PySem PySem.Spec PyProof.Rows L2 Lin
/-- the rows make the row -/
def InR (p : Int) (rs : List (List Int)) (r : List Int) : Prop := ∀ (q : Nat) (_ : NeZero q), p = (q : Int) → Mk q rs (toV (q := q) r)
theorem InR.mem {p : Int} {rs : List (List Int)} {r : List Int} (h : r ∈ rs) : InR p rs r := fun q _ _ => spn_mem (List.mem_map_of_mem h)
theorem InR.mono {p : Int} {rs ts : List (List Int)} {r : List Int} (h : ∀ x ∈ rs, InR p ts x) (hr : InR p rs r) : InR p ts r := fun q z e =>
  spn_sub_of (fun v hv => by
    obtain ⟨x, mx, rfl⟩ := List.mem_map.mp hv
    exact h x mx q z e) (hr q z e)
theorem toV_noughts {q : Nat} [NeZero q] (n : Nat) : toV (q := q) (List.replicate n 0) = zeroV := by
  funext i
  unfold toV zeroV
  rw [show (List.replicate n (0 : Int)).getD i 0 = 0 by
    rw [List.getD_eq_getElem?_getD]
    by_cases h : i < n
    · simp [h]
    · simp [h]]
  exact cF_zero
theorem InR.noughts (p : Int) (rs : List (List Int)) (n : Nat) : InR p rs (List.replicate n 0) := fun q z e => by
  rw [toV_noughts]
  exact (spn_sub _).zero
theorem InR.plus {p : Int} {rs : List (List Int)} {x y : List Int} (m : Int) (hl : x.length = y.length) (hx : InR p rs x) (hy : InR p rs y) : InR p rs (plusR p x y m) := fun q z e => by
  subst e
  rw [toV_plus hl]
  exact (spn_sub _).add (hx q z rfl) ((spn_sub _).mul _ (hy q z rfl))
theorem hasR_in {p : Int} (hF : Fld p) {n : Nat} {rs : List (List Int)} {r : List Int} (h : RowsOk p n rs) (hr : RowsOk p n [r]) : hasR p n rs r = true ↔ InR p rs r := by
  obtain ⟨q, rfl, z, hq⟩ := to_q hF
  unfold hasR
  rw [decide_eq_true_iff, plainR_has hF h hr]
  constructor
  · intro hm q' z' e
    have : q = q' := by omega
    subst this
    exact hm
  · intro hm
    exact hm q z rfl
theorem plain_same {p : Int} (hF : Fld p) {n : Nat} {one other : List (List Int)} (h1 : RowsOk p n one) (h2 : RowsOk p n other) (a : ∀ r ∈ one, InR p other r) (b : ∀ r ∈ other, InR p one r) : plainR p n one = plainR p n other := by
  obtain ⟨q, rfl, z, hq⟩ := to_q hF
  refine plainR_congr hF h1 h2 fun x => ⟨fun hx => ?_, fun hx => ?_⟩
  · exact spn_sub_of (fun v hv => by
      obtain ⟨y, my, rfl⟩ := List.mem_map.mp hv
      exact a y my q z rfl) hx
  · exact spn_sub_of (fun v hv => by
      obtain ⟨y, my, rfl⟩ := List.mem_map.mp hv
      exact b y my q z rfl) hx
theorem same_plain {p : Int} (hF : Fld p) {n : Nat} {one other : List (List Int)} (h1 : RowsOk p n one) (h2 : RowsOk p n other) (h : plainR p n one = plainR p n other) : ∀ r ∈ one, InR p other r := fun r mr q' z' e => by
  subst e
  have := (plainR_mk hF h1 (toV r)).mpr (spn_mem (List.mem_map_of_mem mr))
  rw [h] at this
  exact (plainR_mk hF h2 (toV r)).mp this
theorem plain_iff {p : Int} (hF : Fld p) {n : Nat} {one other : List (List Int)} (h1 : RowsOk p n one) (h2 : RowsOk p n other) :
    decide (plainR p n one = plainR p n other) = (one.all (hasR p n other) && other.all (hasR p n one)) := by
  have e1 : one.all (hasR p n other) = true ↔ ∀ r ∈ one, InR p other r := by
    rw [List.all_eq_true]
    exact ⟨fun h r mr => (hasR_in hF h2 (rowsOk_one (h1 r mr))).mp (h r mr), fun h r mr => (hasR_in hF h2 (rowsOk_one (h1 r mr))).mpr (h r mr)⟩
  have e2 : other.all (hasR p n one) = true ↔ ∀ r ∈ other, InR p one r := by
    rw [List.all_eq_true]
    exact ⟨fun h r mr => (hasR_in hF h1 (rowsOk_one (h2 r mr))).mp (h r mr), fun h r mr => (hasR_in hF h1 (rowsOk_one (h2 r mr))).mpr (h r mr)⟩
  by_cases h : plainR p n one = plainR p n other
  · rw [decide_eq_true h, e1.mpr (same_plain hF h1 h2 h), e2.mpr (same_plain hF h2 h1 h.symm)]
    rfl
  · rw [decide_eq_false h]
    cases ha : one.all (hasR p n other) with
    | false => rfl
    | true =>
      cases hb : other.all (hasR p n one) with
      | false => rfl
      | true => exact absurd (plain_same hF h1 h2 (e1.mp ha) (e2.mp hb)) h
theorem plain_one_more {p : Int} (hF : Fld p) {n : Nat} {rs : List (List Int)} {r : List Int} (h : RowsOk p n rs) (hr : RowsOk p n [r]) : (plainR p n (rs ++ [r])).length = (plainR p n rs).length + (if hasR p n rs r = true then 0 else 1) := by
  by_cases hh : hasR p n rs r = true
  · rw [if_pos hh]
    exact of_decide_eq_true hh
  · rw [if_neg hh]
    obtain ⟨q, rfl, z, hq⟩ := to_q hF
    refine plainR_more hF h hr fun hm => hh ?_
    unfold hasR
    rw [decide_eq_true_iff, plainR_has hF h hr]
    exact hm
/-- a row so many times, and made rows put to it: it is made back -/
theorem InR.back {p : Int} (hF : Fld p) {ts : List (List Int)} {r own : List Int} {m : Int} (m0 : 1 ≤ m) (m1 : m < p) {n : Nat} (hr : r.length = n) (h : InR p ts own) (e : own = plusR p (List.replicate n 0) r m ∨ ∃ x, InR p ts x ∧ x.length = n ∧ own = plusR p (plusR p (List.replicate n 0) r m) x 1) : InR p ts r := fun q z ep => by
  subst ep
  obtain ⟨b, b0, b1, eb⟩ := hF.2 m m0 m1
  have q2 : 2 ≤ q := by have := hF.1; omega
  have hone : cF (q := q) b * cF (q := q) m = 1 := by
    rw [← cF_mul, Int.mul_comm, ← cF_mod, eb, cF_one q2]
  have hS := spn_sub (ts.map (toV (q := q)))
  have key : ∀ y : Vec q, Spn (ts.map (toV (q := q))) y → y = mulV (cF m) (toV r) → Spn (ts.map (toV (q := q))) (toV r) := by
    intro y hy ey
    have := hS.mul (cF (q := q) b) hy
    rw [ey] at this
    have e2 : mulV (cF (q := q) b) (mulV (cF m) (toV r)) = toV r := by
      funext i
      show cF b * (cF m * toV r i) = toV r i
      grind
    rwa [e2] at this
  have lz : (List.replicate n (0 : Int)).length = r.length := by rw [List.length_replicate, hr]
  have e0 : toV (q := q) (plusR q (List.replicate n 0) r m) = mulV (cF m) (toV r) := by
    rw [toV_plus lz, toV_noughts, zero_add]
  rcases e with rfl | ⟨x, hx, lx, rfl⟩
  · exact key _ (h q z rfl) e0
  · have l1 : (plusR (q : Int) (List.replicate n 0) r m).length = x.length := by
      rw [plus_len lz, List.length_replicate, lx]
    have h1 := h q z rfl
    unfold Mk at h1
    rw [toV_plus l1, e0] at h1
    refine key _ (hS.less 1 h1 (hx q z rfl)) ?_
    funext i
    show (cF m * toV r i + cF 1 * toV x i) - 1 * toV x i = cF m * toV r i
    rw [cF_one q2]
    grind
end OC

set_option Elab.async false
set_option linter.all false
set_option maxRecDepth 100000
set_option maxHeartbeats 4000000
/-! a display of one pair whose key is a tuple -/
namespace OC
open PySem PySem.Spec PyProof.Rows L2
def tDispT1 (tk tv : TE) : TE := fun σ H Q => ∀ p, H p = none → tk σ (upd H p (.dT [])) fun x H1 => tv σ H1 fun y H2 => H2 p = some (.dT []) ∧ ∃ (b : Addr) (k : List L2.Key), x = .ref b ∧ H2 b = some (.tup (k.map kV)) ∧ Q (.ref p) (upd H2 p (.dT [(k, y)]))
theorem pe_dispT1 {X : Cx} {pos : Pos} {k v : Expr} {tk tv : TE} (hu : X.A.units + 65 < cLine) (hk : PE X k tk) (hv : PE X v tv) : PE X (.Dict [some k] [v] pos) (tDispT1 tk tv) := by
  refine ⟨fun pins s σ H Q I q => ?_⟩
  have hn := I.hok.fresh (Nat.le_refl s.heap.objs.size)
  have I1 := I.laid (a := s.heap.objs.size) (o := .dT []) (h' := s.heap.push { cls := .type "dict", data := .dict #[] }) (t' := s.toks) (fun _ _ q => Heap.get?_push_of_some _ q) (Nat.le_refl _) (dt_empty s.heap I.big)
  have h : PPs X pos [some k] [v] [(tk, tv)] := pps_cons hk hv pps_nil
  rw [arm_eval_Dict, zip_pairTrees [some k] [v] X.env pos rfl rfl]
  have hne : pairTrees [some k] [v] X.env pos ≠ [] := fun z => by
    have := pairTrees_length [some k] [v] X.env pos rfl rfl
    rw [z] at this
    cases this
  have hlen : (pairTrees [some k] [v] X.env pos).length ≤ 15 := by
    rw [pairTrees_length [some k] [v] X.env pos rfl rfl]
    show 1 ≤ 15
    decide
  rw [dictDisplay_pairs _ hne (by omega)]
  refine wpAny_bind (wpAny_standAt (wpAny_bind (wpAny_subDictH (knd := tupleKind (mixKind X.prog X.w)) (show X.A.units < cLine by omega) hlen ?_)))
  let R : List (V × V) → Hp → Prop := fun ps H2 => match ps with
    | [(x, y)] => H2 s.heap.objs.size = some (.dT []) ∧ ∃ (b : Addr) (k : List L2.Key), x = .ref b ∧ H2 b = some (.tup (k.map kV)) ∧ Q (.ref s.heap.objs.size) (upd H2 s.heap.objs.size (.dT [(k, y)]))
    | _ => False
  refine thn (h.run pins _ σ _ R I1 (q _ hn)) fun ws s2 ⟨ps, H2, I2, rel, hR⟩ => ?_
  match ps, rel, hR with
  | [(x, y)], rel, hR =>
    obtain ⟨e, b, kk, rfl, eb, q2⟩ := hR
    cases rel with
    | @cons _ w2 _ ws2 hw t =>
      cases t
      obtain ⟨u, r⟩ := w2
      obtain ⟨ru, rv⟩ := hw
      cases (show u = Value.ref b from ru)
      obtain ⟨z, hd, xs, kt, dd⟩ := dt_of I2.hok e
      cases kt
      refine ⟨[(kk, b, r)], ⟨rfl, rfl, key_of I2.hok eb, trivial⟩, dd, fun h' tk dd' hs => wpAny_pure ⟨.ref s.heap.objs.size, _, ?_, rfl, q2⟩⟩
      obtain ⟨q', es, ep, hq, h2, h3, h4, _, h5⟩ := dd'
      refine d_write I2 (by rw [e]; exact True.intro) hs ⟨q', hq⟩ ⟨(show 1 ≤ sizeLine from sz1000 (by decide)), hd, [(kk, b, r)], .cons ⟨rfl, ?_, rv⟩ .nil, q', es, ep, hq, h2, h3, h4, h5⟩
      rw [upd_ne (ne_of eb e (fun z => nomatch z))]
      exact eb
end OC

set_option Elab.async false
set_option linter.all false
set_option maxRecDepth 100000
set_option maxHeartbeats 4000000
/-! dicts whose keys are rows; all rows that rows make -/
namespace OC
open PySem PySem.Spec PyProof.Rows L2 Lin
/-- a method's rule inside a comprehension: K by its name -/
theorem pe_bmK {X : Cx} {K : PySem.W.Frag} {e : Expr} {T : String} {r : V → List V → Hp → VK → Prop} {to : TE} {t : TA} (hK : X.K = K) (h : PE X e (tBM X.K T r to t)) : PE X e (tBM K T r to t) := hK ▸ h
theorem RowsAt.tk2 {K : PySem.W.Frag} {H H' : Hp} {a : Addr} {rs : List (List Int)} (t : Tk H H') (h : RowsAt K H a rs) : RowsAt K H' a rs := by
  obtain ⟨ws, h1, h2⟩ := h
  exact ⟨ws, t K _ _ h1, dpAll_tk t _ _ (noL_rows rs) h2⟩
theorem units1 {k : Nat} {A : Around} (r : Room k A) : A.units + 1 < cLine := by have := r.un; omega
def keyR (g : List Int) : List L2.Key := g.map Sum.inl
theorem keyR_V (g : List Int) : (keyR g).map kV = g.map V.int := by
  unfold keyR
  rw [List.map_map]
  rfl
theorem keyR_inj {g h : List Int} (e : keyR g = keyR h) : g = h := map_inj_on Sum.inl g h (fun x _ y _ z => Sum.inl.inj z) e
def dictR (gs : List (List Int)) : List (List L2.Key × V) := gs.map fun g => (keyR g, V.bl true)
def addG (gs : List (List Int)) (g : List Int) : List (List Int) := if g ∈ gs then gs else gs ++ [g]
theorem addG_mem {gs : List (List Int)} {g x : List Int} : x ∈ addG gs g ↔ x ∈ gs ∨ x = g := by
  unfold addG
  split
  · rename_i h
    exact ⟨.inl, fun z => z.elim id fun e => e ▸ h⟩
  · simp
theorem addG_len (gs : List (List Int)) (g : List Int) : (addG gs g).length ≤ gs.length + 1 := by
  unfold addG
  split <;> simp
theorem addG_nodup {gs : List (List Int)} {g : List Int} (h : gs.Nodup) : (addG gs g).Nodup := by
  unfold addG
  split
  · exact h
  · rename_i hn
    rw [List.nodup_append]
    exact ⟨h, by simp, fun a ha b hb => by
      have : b = g := by simpa using hb
      subst this
      exact fun z => hn (z ▸ ha)⟩
theorem dictR_len (gs : List (List Int)) : (dictR gs).length = gs.length := List.length_map ..
theorem dictR_any (gs : List (List Int)) (g : List Int) : ((dictR gs).any fun kv => decide (kv.1 = keyR g)) = decide (g ∈ gs) := by
  by_cases h : g ∈ gs
  · rw [decide_eq_true h, List.any_eq_true]
    exact ⟨(keyR g, V.bl true), List.mem_map.mpr ⟨g, h, rfl⟩, decide_eq_true rfl⟩
  · rw [decide_eq_false h, List.any_eq_false]
    intro kv hk
    obtain ⟨x, mx, rfl⟩ := List.mem_map.mp hk
    intro z
    have := keyR_inj (of_decide_eq_true z)
    exact h (this ▸ mx)
theorem put_dictR (gs : List (List Int)) (g : List Int) : putK (dictR gs) (keyR g) (V.bl true) = dictR (addG gs g) := by
  unfold putK
  rw [dictR_any]
  by_cases h : g ∈ gs
  · rw [if_pos (decide_eq_true h)]
    unfold addG
    rw [if_pos h]
    have : ∀ kv ∈ dictR gs, (if kv.1 = keyR g then (kv.1, V.bl true) else kv) = kv := fun kv hk => by
      obtain ⟨x, mx, rfl⟩ := List.mem_map.mp hk
      split <;> rfl
    rw [List.map_congr_left this, List.map_id']
  · rw [if_neg (by rw [decide_eq_false h]; decide)]
    unfold addG
    rw [if_neg h]
    unfold dictR
    rw [List.map_append]
    rfl
theorem val_dictR (gs : List (List Int)) (g : List Int) : (valV (dictR gs) (keyR g)).isSome = decide (g ∈ gs) := by
  unfold valV
  rw [Option.isSome_map, ← dictR_any, Bool.eq_iff_iff, List.find?_isSome, List.any_eq_true]
/-- what rows and one more make -/
theorem in_more {p : Int} (hF : Fld p) {n : Nat} {rs : List (List Int)} {row r : List Int} (hrow : RowsOk p n [row]) (hr : RowsOk p n [r]) (h : InR p (rs ++ [row]) r) : ∃ g m, RowsOk p n [g] ∧ InR p rs g ∧ 0 ≤ m ∧ m < p ∧ r = plusR p g row m := by
  obtain ⟨q, rfl, z, hq⟩ := to_q hF
  have h := h q z rfl
  have lr := hr r List.mem_cons_self
  have lrow := hrow row List.mem_cons_self
  unfold Mk at h
  rw [List.map_append] at h
  obtain ⟨s, c, hs, ex⟩ := spn_more h
  have hp : 0 < (q : Int) := by have := hF.1; omega
  have ll : r.length = row.length := by omega
  have lg : (plusR (q : Int) r row (-(c.val : Int))).length = n := by rw [plus_len ll]; exact lr.1
  have ec : cF (q := q) (c.val : Int) = c := by
    apply fin_ext_int
    rw [cF_val]
    exact Int.emod_eq_of_lt (by omega) (by have := c.isLt; omega)
  have ecn : cF (q := q) (-(c.val : Int)) = - c := by
    have : cF (q := q) (0 - (c.val : Int)) = cF 0 - cF (c.val : Int) := cF_sub _ _
    rw [cF_zero, ec] at this
    rw [show -(c.val : Int) = 0 - (c.val : Int) by omega, this]
    grind
  have tg : toV (q := q) (plusR q r row (-(c.val : Int))) = s := by
    rw [toV_plus ll, ex, ecn]
    funext i
    show (s i + c * toV row i) + -c * toV row i = s i
    grind
  refine ⟨plusR q r row (-(c.val : Int)), c.val, rowsOk_one ⟨lg, plus_ok hp⟩, fun q' z' e' => ?_, by omega, by have := c.isLt; omega, ?_⟩
  · have : q = q' := by omega
    subst this
    unfold Mk
    rw [tg]
    exact hs
  · have l2 : (plusR (q : Int) r row (-(c.val : Int))).length = row.length := by omega
    refine toV_inj (q := q) (by rw [plus_len l2, lg]; exact lr.1) lr.2 (plus_ok hp) ?_
    rw [toV_plus l2, tg, ec]
    exact ex
theorem in_nil {p : Int} (hF : Fld p) {n : Nat} {r : List Int} (hr : RowsOk p n [r]) (h : InR p [] r) : r = List.replicate n 0 := by
  obtain ⟨q, rfl, z, hq⟩ := to_q hF
  have lr := hr r List.mem_cons_self
  obtain ⟨fs, e⟩ := h q z rfl
  refine toV_inj (q := q) (by rw [List.length_replicate]; exact lr.1) lr.2 (row_noughts' (by have := hF.1; omega) n).2 ?_
  rw [e, toV_noughts]
  exact lin_nil' fs
end OC

set_option Elab.async false
set_option linter.all false
set_option maxRecDepth 100000
set_option maxHeartbeats 4000000
/-! lists of rows that stand by themselves; all rows -/
namespace OC
open PySem PySem.Spec PyProof.Rows L2
theorem small10k {n : Nat} (h : n ≤ 10000) : n < sizeLine := by rw [sizeLine_eq]; omega
inductive TAll (H : Hp) : List V → List (List Int) → Prop
  | nil : TAll H [] []
  | cons {b : Addr} {g : List Int} {vs : List V} {gs : List (List Int)} : H b = some (.tup (g.map V.int)) → TAll H vs gs → TAll H (.ref b :: vs) (g :: gs)
theorem TAll.same {H H' : Hp} (s : Same H H') : ∀ {vs : List V} {gs : List (List Int)}, TAll H vs gs → TAll H' vs gs
  | _, _, .nil => .nil
  | _, _, .cons h t => .cons (s _ _ h) (t.same s)
theorem TAll.app {H : Hp} : ∀ {vs us : List V} {gs hs : List (List Int)}, TAll H vs gs → TAll H us hs → TAll H (vs ++ us) (gs ++ hs)
  | _, _, _, _, .nil, h => h
  | _, _, _, _, .cons h t, h2 => .cons h (t.app h2)
theorem TAll.len {H : Hp} : ∀ {vs : List V} {gs : List (List Int)}, TAll H vs gs → vs.length = gs.length
  | _, _, .nil => rfl
  | _, _, .cons _ t => by rw [List.length_cons, List.length_cons, t.len]
theorem TAll.get {H : Hp} : ∀ {vs : List V} {gs : List (List Int)} {i : Nat} {v : V}, TAll H vs gs → vs[i]? = some v → ∃ b g, v = .ref b ∧ gs[i]? = some g ∧ H b = some (.tup (g.map V.int))
  | _, _, _, _, .nil, h => by simp at h
  | _, _, 0, _, .cons (b := b) (g := g) h t, e => by cases e; exact ⟨b, g, rfl, rfl, h⟩
  | _, _, i + 1, v, .cons h t, e => t.get (i := i) (v := v) e
def longR (p : Nat) (g : List Int) : List (List Int) := (List.range p).map fun (x : Nat) => g ++ [(x : Int)]
def allR (p : Nat) : Nat → List (List Int)
  | 0 => [[]]
  | n + 1 => (allR p n).flatMap (longR p)
theorem longR_len (p : Nat) (g : List Int) : (longR p g).length = p := by simp [longR]
theorem flat_len (p : Nat) : ∀ gs : List (List Int), (gs.flatMap (longR p)).length = gs.length * p
  | [] => by simp
  | g :: gs => by rw [List.flatMap_cons, List.length_append, flat_len p gs, longR_len, List.length_cons, Nat.add_mul]; omega
theorem allR_len (p n : Nat) : (allR p n).length = p ^ n := by
  induction n with
  | zero => rfl
  | succ n ih => rw [allR, flat_len, ih, Nat.pow_succ]
theorem allR_ok {p n : Nat} {g : List Int} (h : g ∈ allR p n) : g.length = n ∧ ∀ x ∈ g, 0 ≤ x ∧ x < (p : Int) := by
  induction n generalizing g with
  | zero =>
    have : g = [] := by simpa [allR] using h
    subst this
    exact ⟨rfl, fun x hx => nomatch hx⟩
  | succ n ih =>
    obtain ⟨g', h1, h2⟩ := List.mem_flatMap.mp h
    obtain ⟨y, hy, rfl⟩ := List.mem_map.mp h2
    obtain ⟨l, o⟩ := ih h1
    refine ⟨by rw [List.length_append, l]; rfl, fun x hx => ?_⟩
    rcases List.mem_append.mp hx with hx | hx
    · exact o x hx
    · have : x = (y : Int) := by simpa using hx
      have := List.mem_range.mp hy
      omega
theorem allR_all {p n : Nat} {g : List Int} (l : g.length = n) (o : ∀ x ∈ g, 0 ≤ x ∧ x < (p : Int)) : g ∈ allR p n := by
  induction n generalizing g with
  | zero =>
    have : g = [] := List.length_eq_zero_iff.mp l
    subst this
    exact List.mem_cons_self
  | succ n ih =>
    have hne : g ≠ [] := fun z => by rw [z] at l; cases l
    refine List.mem_flatMap.mpr ⟨g.dropLast, ih (by rw [List.length_dropLast, l]; rfl) fun x hx => o x ((List.dropLast_sublist g).subset hx), List.mem_map.mpr ⟨(g.getLast hne).toNat, List.mem_range.mpr ?_, ?_⟩⟩
    · have := o _ (List.getLast_mem hne)
      omega
    · have := o _ (List.getLast_mem hne)
      rw [show (((g.getLast hne).toNat : Nat) : Int) = g.getLast hne by omega]
      exact List.dropLast_concat_getLast hne
def nzsR (r : List Int) (k : Nat) : List Nat := (List.range k).filter fun i => decide (r.getD i 0 ≠ 0)
theorem nzs_head {r : List Int} (h : fpR r < r.length) : (nzsR r r.length)[0]? = some (fpR r) := by
  rw [← List.head?_eq_getElem?]
  unfold nzsR
  rw [List.head?_filter, List.find?_range_eq_some]
  exact ⟨decide_eq_true (fpR_at h), List.mem_range.mpr h, fun j hj => by
    rw [decide_eq_false (by rw [fpR_low hj]; simp)]
    rfl⟩
theorem TAll.mut {H : Hp} {D : Addr} {xs : List V} {o : HO} (e : H D = some (.lst xs)) : ∀ {vs : List V} {gs : List (List Int)}, TAll H vs gs → TAll (upd H D o) vs gs
  | _, _, .nil => .nil
  | _, _, .cons h t => .cons (by rw [upd_ne (fun z => by rw [z, e] at h; cases h)]; exact h) (t.mut e)
/-- [x for x in xs if t], of rows that stand by themselves -/
theorem lc_filterT {J : It} {G : Hp → Prop} {vs : List V} {gs : List (List Int)} {σ : L2.St} {H : Hp} {Qd : Addr → Hp → Prop} {i : Nat} {sl : List Nat} {tt : TT} (q : List Int → Bool)
    (w : Walk J vs.length G (YAt vs)) (hG : ∀ H', Same H H' → G H') (hD : TAll H vs gs) (hz : vs.length ≤ 10000) (hw : ∀ x : Option V, wipe ((wipe σ sl).set i x) sl = wipe σ sl) (hi : i < (wipe σ sl).length)
    (htt : ∀ (b : Addr) (g : List Int) (H' : Hp) (Q' : Bool → Hp → Prop), g ∈ gs → H' b = some (.tup (g.map V.int)) → Same H H' → (∀ H'', Same H' H'' → Q' (q g) H'') → tt ((wipe σ sl).set i (some (.ref b))) H' Q')
    (hd : ∀ D H' ws, Same H H' → H D = none → H' D = some (.lst ws) → TAll H' ws (gs.filter q) → Qd D H') :
    LcGoal J (gName i) tt (tVar i) sl σ H Qd := by
  intro D nD
  have lv := hD.len
  refine lc_it w (fun k H' => Same H H' ∧ ∃ ws, H' D = some (.lst ws) ∧ ws.length ≤ k ∧ TAll H' ws ((gs.take k).filter q)) ⟨same_mut (Same.refl H) nD, [], upd_same, Nat.le_refl _, .nil⟩ (fun k H' _ hP => hG H' hP.1) (fun k x H1 H2 hk hP hY => ?_) (fun H' hP => ?_)
  · obtain ⟨rfl, e1⟩ := hY
    obtain ⟨sm, ws, eD, lw, rw_⟩ := hP
    obtain ⟨b, g, rfl, gg, hb⟩ := hD.get e1
    refine ⟨hw _, htt b g _ _ (List.mem_of_getElem? gg) (sm _ _ hb) sm fun H'' s2 => ?_⟩
    have eD2 := s2 _ _ eD
    have tk : (gs.take (k + 1)).filter q = (gs.take k).filter q ++ (if q g = true then [g] else []) := by
      rw [List.take_add_one, gg, List.filter_append]
      congr 1
      by_cases hq : q g = true
      · simp [hq]
      · simp [hq]
    by_cases hq : q g = true
    · rw [hq]
      refine iteT ⟨.ref b, by rw [List.getElem?_set_self hi], ws, eD2, small10k (by omega), same_mut (sm.trans s2) nD, ws ++ [.ref b], upd_same, by rw [List.length_append]; simp; omega, ?_⟩
      rw [tk, if_pos hq]
      exact ((rw_.same s2).app (.cons ((sm.trans s2) _ _ hb) .nil)).mut eD2
    · have hq' : q g = false := by simpa using hq
      rw [hq']
      refine iteF ⟨sm.trans s2, ws, eD2, by omega, ?_⟩
      rw [tk, if_neg hq, List.append_nil]
      exact rw_.same s2
  · obtain ⟨sm, ws, eD, lw, rw_⟩ := hP
    rw [List.take_of_length_le (by omega)] at rw_
    exact hd D H' ws sm nD eD rw_
end OC

set_option Elab.async false
set_option linter.all false
set_option maxRecDepth 100000
set_option maxHeartbeats 4000000
/-! min and max of a tuple of ints -/
namespace OC
open PySem PySem.Spec PyProof.Rows L2
def rBestT (K : PySem.W.Frag) : List V → Hp → VK → Prop := fun vs H Q => ∃ (a : Addr) (ns : List Int), vs = [.ref a] ∧ SqT K H a (ns.map V.int) ∧ 0 < ns.length ∧ ∀ m ∈ ns, Q (.int m) H
theorem vals_at : ∀ {ns : List Int} {its : List Value} {i : Nat} {v : Value}, Vals (ns.map V.int) its → its[i]? = some v → ∃ m ∈ ns, RelV (.int m) v
  | [], _, _, _, h, g => by cases h; cases g
  | x :: xs, _, i, v, h, g => by
    cases h with
    | cons r1 r2 =>
      cases i with
      | zero => cases g; exact ⟨x, List.mem_cons_self, r1⟩
      | succ i =>
        obtain ⟨m, mm, r⟩ := vals_at (ns := xs) r2 g
        exact ⟨m, List.mem_cons_of_mem _ mm, r⟩
theorem cr_minT {X : Cx} (hc : X.calm = true) (hu : X.A.units + 65 < cLine) : CallR X (.builtin "min") (rBestT X.K) := by
  intro pins s σ H vs us Q I r h
  obtain ⟨a, ns, rfl, hs, hne, q⟩ := h
  obtain ⟨its, rv, hl, _⟩ := I.tuple hs
  rw [Vals.ref1 r]
  cases ns with
  | nil => exact absurd hne (Nat.lt_irrefl 0)
  | cons x xs =>
    obtain ⟨as, rd, _⟩ := repAll_reads (bad := NB) I ((x :: xs).map PyData.int) _ its (repAll_ints (x :: xs)) rv
    refine PySem.W.min_tuple_datum (α := Int) (vs := its.toArray) (I.ok.hd hc) hl ⟨as, rd⟩ (by rw [show PySem.W.Datum.depth Int = 0 from rfl]; omega) fun i v h' tk hi _ hk => ?_
    rw [List.getElem?_toArray] at hi
    obtain ⟨m, mm, rm⟩ := vals_at rv hi
    exact ⟨.int m, H, I.kept hk, rm, q m mm⟩
theorem cr_maxT {X : Cx} (hc : X.calm = true) (hu : X.A.units + 65 < cLine) : CallR X (.builtin "max") (rBestT X.K) := by
  intro pins s σ H vs us Q I r h
  obtain ⟨a, ns, rfl, hs, hne, q⟩ := h
  obtain ⟨its, rv, hl, _⟩ := I.tuple hs
  rw [Vals.ref1 r]
  cases ns with
  | nil => exact absurd hne (Nat.lt_irrefl 0)
  | cons x xs =>
    obtain ⟨as, rd, _⟩ := repAll_reads (bad := NB) I ((x :: xs).map PyData.int) _ its (repAll_ints (x :: xs)) rv
    refine PySem.W.max_tuple_datum (α := Int) (vs := its.toArray) (I.ok.hd hc) hl ⟨as, rd⟩ (by rw [show PySem.W.Datum.depth Int = 0 from rfl]; omega) fun i v h' tk hi _ hk => ?_
    rw [List.getElem?_toArray] at hi
    obtain ⟨m, mm, rm⟩ := vals_at rv hi
    exact ⟨.int m, H, I.kept hk, rm, q m mm⟩
end OC

set_option Elab.async false
set_option linter.all false
set_option maxRecDepth 100000
set_option maxHeartbeats 4000000
/-! what is left of a row -/
namespace OC
open PySem PySem.Spec PyProof.Rows L2 Lin
theorem left_at {p : Int} (hF : Fld p) {n : Nat} {room : List (List Int)} (h : PFR p n room) {r : List Int} (hr : RowsOk p n [r]) {c : List Int} (hc : c ∈ room) : (leftR p room r).getD (fpR c) 0 = 0 := by
  obtain ⟨q, rfl, z, hF⟩ := to_q hF
  obtain ⟨bs, pf, e, ok, et⟩ := ((isPF_iff hF).mpr h).left hF hr
  refine (toV_eq0 (q := q) (ok _ List.mem_cons_self).2 _).mp ?_
  have m : toV (q := q) c ∈ bs.map (·.2) := by rw [e]; exact List.mem_map_of_mem hc
  obtain ⟨b, mb, eb⟩ := List.mem_map.mp m
  have fj : fpR c = b.1 := fpR_lead (q := q) (h.1 c hc).2 (by rw [← eb]; exact pf.leads (one_ne (q2 hF)) mb)
  rw [et, fj]
  exact Lin.left_at pf _ mb
theorem cF_less {q : Nat} [NeZero q] (h : 2 ≤ q) : cF (q := q) ((q : Int) - 1) = -1 := by
  have e : (q : Int) - 1 = (q : Int) + (0 - 1) := by omega
  have hq : cF (q := q) (q : Int) = 0 := by
    rw [← cF_mod, Int.emod_self, cF_zero]
  rw [e, cF_add, hq, cF_sub, cF_zero, cF_one h]
  grind
theorem left_in {p : Int} (hF : Fld p) {n : Nat} {room : List (List Int)} (h : PFR p n room) {r : List Int} (hr : RowsOk p n [r]) : InR p room (plusR p r (leftR p room r) (p - 1)) := fun q z ep => by
  subst ep
  obtain ⟨bs, pf, e, ok, et⟩ := ((isPF_iff hF).mpr h).left hF hr
  rw [toV_plus (by rw [(hr r List.mem_cons_self).1, (ok _ List.mem_cons_self).1]), et, cF_less (q2 hF)]
  have e1 : addV (toV r) (mulV (-1) (leftV bs (toV r))) = red bs (toV (q := q) r) := by
    funext i
    show toV r i + -1 * (toV r i - red bs (toV r) i) = red bs (toV r) i
    grind
  rw [e1]
  unfold Mk
  rw [← e]
  exact spn_red bs _
theorem noughts_iff {r : List Int} {n : Nat} (h : r.length = n) : r = List.replicate n 0 ↔ ∀ x ∈ r, x = 0 := by
  rw [List.eq_replicate_iff]
  exact ⟨fun z => z.2, fun z => ⟨h, z⟩⟩
theorem left_iff {p : Int} (hF : Fld p) {n : Nat} {room : List (List Int)} (h : PFR p n room) {r : List Int} (hr : RowsOk p n [r]) : decide (leftR p room r = List.replicate n 0) = hasR p n room r := by
  have l := (PFR.left_ok hF h hr _ List.mem_cons_self).1
  have e := PFR.left_has hF h hr
  unfold hasR
  rw [decide_eq_decide, noughts_iff l]
  exact e
theorem left_same {p : Int} (hF : Fld p) {n : Nat} {room : List (List Int)} (h : PFR p n room) {r x : List Int} (hr : RowsOk p n [r]) (hx : RowsOk p n [x]) (hi : InR p room x) (hrx : RowsOk p n [plusR p r x 1]) : leftR p room (plusR p r x 1) = leftR p room r := by
  obtain ⟨q, rfl, z, hF⟩ := to_q hF
  have okr := hr r List.mem_cons_self
  have okx := hx x List.mem_cons_self
  obtain ⟨ok, bs, pf, e⟩ := (isPF_iff hF).mpr h
  have ld : ∀ b ∈ bs, Lead b.2 b.1 := fun b hb => pf.leads (one_ne (q2 hF)) hb
  obtain ⟨a1, a2⟩ := leftR_sim room bs r ok hr e ld
  obtain ⟨b1, b2⟩ := leftR_sim room bs _ ok hrx e ld
  have l1 := a1 _ List.mem_cons_self
  have l2 := b1 _ List.mem_cons_self
  refine toV_inj (q := q) (by rw [l1.1, l2.1]) l2.2 l1.2 ?_
  rw [a2, b2, pf.leftF, pf.leftF, toV_plus (by rw [okr.1, okx.1]), cF_one (q2 hF)]
  have hm : red bs (toV (q := q) x) = toV x := pf.told (by rw [e]; exact hi q z rfl)
  funext i
  have r1 := congrFun (red_add bs (toV (q := q) r) (mulV 1 (toV x))) i
  have r2 := congrFun (red_mul 1 bs (toV (q := q) x)) i
  show (toV r i + 1 * toV x i) - red bs (addV (toV r) (mulV 1 (toV x))) i = toV r i - red bs (toV r) i
  rw [r1]
  show (toV r i + 1 * toV x i) - (red bs (toV r) i + red bs (mulV 1 (toV x)) i) = toV r i - red bs (toV r) i
  rw [r2]
  show (toV r i + 1 * toV x i) - (red bs (toV r) i + 1 * red bs (toV x) i) = toV r i - red bs (toV r) i
  rw [hm]
  grind
end OC
namespace OC
theorem plus_row {p : Int} (hp : 0 < p) {x y : List Int} {n : Nat} (hx : x.length = n) (hy : y.length = n) (m : Int) : (plusR p x y m).length = n ∧ ∀ v ∈ plusR p x y m, 0 ≤ v ∧ v < p := ⟨by rw [plus_len (by rw [hx, hy]), hx], plus_ok hp⟩
end OC
namespace OC
theorem InR.plain {p : Int} (hF : Fld p) {n : Nat} {rs : List (List Int)} (h : RowsOk p n rs) {r : List Int} : InR p (plainR p n rs) r ↔ InR p rs r := ⟨fun hx q z e => by
    subst e
    exact (plainR_mk hF h _).mp (hx q z rfl), fun hx q z e => by
    subst e
    exact (plainR_mk hF h _).mpr (hx q z rfl)⟩
theorem hasR_plain {p : Int} (hF : Fld p) {n : Nat} {rs : List (List Int)} (h : RowsOk p n rs) {r : List Int} (hr : RowsOk p n [r]) : hasR p n (plainR p n rs) r = true ↔ InR p rs r := by
  rw [hasR_in hF (PFR.of_plain hF h).1 hr, InR.plain hF h]
end OC

set_option Elab.async false
set_option linter.all false
set_option maxRecDepth 100000
set_option maxHeartbeats 4000000
/-! rows and lists of them: what laws over rooms share -/
namespace OC
open PySem PySem.Spec PyProof.Rows L2
section
variable {K : PySem.W.Frag} {H : Hp} {bad : Addr → Prop}
theorem repAll_none {ws : List V} {es : List PyData} {q : PyData → Bool} (h : RepAll K H bad ws (es.filter q)) (hq : ∀ d ∈ es, q d = false) : ws = [] := by
  have e : es.filter q = [] := List.filter_eq_nil_iff.mpr fun d hd => by rw [hq d hd]; decide
  rw [e] at h
  cases h
  rfl
theorem filter_all {ws : List V} {es : List PyData} {q : PyData → Bool} (h : RepAll K H bad ws (es.filter fun d => !q d)) : ws.isEmpty = es.all q := by
  have lw := repAll_len h
  cases ws with
  | nil =>
    have l0 : 0 = (es.filter fun d => !q d).length := lw
    refine Eq.symm (List.all_eq_true.mpr fun d hd => ?_)
    have := List.filter_eq_nil_iff.mp (List.length_eq_zero_iff.mp l0.symm) d hd
    simpa using this
  | cons v vs =>
    show false = es.all q
    cases hq : es.all q with
    | false => rfl
    | true =>
      exfalso
      have e : es.filter (fun d => !q d) = [] := List.filter_eq_nil_iff.mpr fun d hd => by
        rw [List.all_eq_true.mp hq d hd]
        decide
      rw [e] at lw
      cases lw
theorem all_rows {q : List Int → Bool} (rs : List (List Int)) : ((rs.map rowD).all fun d => q (intsOf d)) = rs.all q := by
  rw [List.all_map]
  have : (fun d => q (intsOf d)) ∘ rowD = q := by
    funext r
    show q (intsOf (rowD r)) = q r
    rw [ints_row]
  rw [this]
theorem repAll_rows : ∀ {ws : List V} {rs : List (List Int)}, RepAll K H bad ws (rs.map rowD) → DpAll K H ws (rs.map rowD)
  | _, [], h => by cases h; exact .nil
  | _, r :: rs, h => by
    cases h with
    | cons h1 h2 =>
      obtain ⟨l, rfl, hl⟩ := rep_row h1
      exact .cons (row_dp hl) (repAll_rows (rs := rs) h2)
theorem rep_rowsAt {v : V} {rs : List (List Int)} (h : Rep K H bad v (.tuple (rs.map rowD))) : ∃ a, v = .ref a ∧ RowsAt K H a rs := by
  cases h with
  | @tup t ys es hT hy => exact ⟨t, rfl, ys, hT, repAll_rows hy⟩
def rowsD : PyData → List (List Int)
  | .tuple ds => ds.map intsOf
  | _ => []
theorem rowsD_rows (rs : List (List Int)) : rowsD (.tuple (rs.map rowD)) = rs := by
  show (rs.map rowD).map intsOf = rs
  rw [List.map_map]
  have : (intsOf ∘ rowD) = id := by
    funext r
    exact ints_row r
  rw [this, List.map_id]
theorem lv_rows {n : Nat} {p : Int} {rs : List (List Int)} (h : RowsOk p n rs) (hn : n ≤ 1000) (hl : rs.length ≤ 1000) : Lv (Lv (Lv L0)) (.tuple (rs.map rowD)) := by
  refine .inr ⟨_, rfl, by rw [List.length_map]; exact hl, fun x hx => ?_⟩
  obtain ⟨r, mr, rfl⟩ := List.mem_map.mp hx
  exact lv_row r (by rw [(h r mr).1]; exact hn) L0
theorem RowsAt.dp {a : Addr} {rs : List (List Int)} (h : RowsAt K H a rs) : Dp K H (.ref a) (.tuple (rs.map rowD)) := by
  obtain ⟨ws, h1, h2⟩ := h
  exact .tup h1 h2
end
theorem rep_bls {K : PySem.W.Frag} {H : Hp} {bad : Addr → Prop} : ∀ {ws : List V} {bs : List Bool}, RepAll K H bad ws (bs.map PyData.bool) → ws = bs.map V.bl
  | _, [], h => by cases h; rfl
  | _, b :: bs, h => by
    cases h with
    | cons h1 h2 =>
      cases h1
      rw [rep_bls (bs := bs) h2]
      rfl
end OC

set_option Elab.async false
set_option linter.all false
set_option maxRecDepth 100000
set_option maxHeartbeats 4000000
/-! rooms joined and shared -/
namespace OC
open PySem PySem.Spec PyProof.Rows L2 Lin
def joinR (p : Int) (n : Nat) (one other : List (List Int)) : List (List Int) := plainR p n (one ++ other)
def meetR (p : Int) (n : Nat) (one other : List (List Int)) : List (List Int) := acrossR p n (joinR p n (acrossR p n one) (acrossR p n other))
section
variable {p : Int} {n : Nat} {one other : List (List Int)}
theorem join_pf (hF : Fld p) (h1 : RowsOk p n one) (h2 : RowsOk p n other) : PFR p n (joinR p n one other) := PFR.of_plain hF (rowsOk_app h1 h2)
theorem meet_pf (hF : Fld p) : PFR p n (meetR p n one other) := PFR.across hF n _
theorem PFR.ext (hF : Fld p) (h1 : PFR p n one) (h2 : PFR p n other) (a : ∀ r ∈ one, InR p other r) (b : ∀ r ∈ other, InR p one r) : one = other := by
  have := plain_same hF h1.1 h2.1 a b
  rw [h1.2, h2.2] at this
  exact this
theorem meet_mk {q : Nat} [NeZero q] (hF : Fld (q : Int)) (h1 : PFR q n one) (h2 : PFR q n other) (x : Vec q) : Mk q (meetR q n one other) x ↔ Mk q one x ∧ Mk q other x := by
  have i1 := (isPF_iff hF).mpr h1
  have i2 := (isPF_iff hF).mpr h2
  have ja : RowsOk q n (acrossR q n one ++ acrossR q n other) := rowsOk_app (acrossR_pf hF n one).1 (acrossR_pf hF n other).1
  have jp : IsPF q n (joinR q n (acrossR q n one) (acrossR q n other)) := plainR_pf hF ja
  unfold meetR
  rw [acrossR_perp hF jp]
  have e : Mk q (joinR q n (acrossR q n one) (acrossR q n other)) = Mk q (acrossR q n one ++ acrossR q n other) := by
    funext y
    exact propext (plainR_mk hF ja y)
  rw [e, ← perp_across hF i1, ← perp_across hF i2]
  unfold Mk
  rw [List.map_append]
  exact perp_app x
theorem InR.meet (hF : Fld p) (h1 : PFR p n one) (h2 : PFR p n other) (r : List Int) : InR p (meetR p n one other) r ↔ InR p one r ∧ InR p other r := by
  constructor
  · intro h
    exact ⟨fun q z e => by subst e; exact ((meet_mk hF h1 h2 _).mp (h q z rfl)).1, fun q z e => by subst e; exact ((meet_mk hF h1 h2 _).mp (h q z rfl)).2⟩
  · rintro ⟨a, b⟩ q z e
    subst e
    exact (meet_mk hF h1 h2 _).mpr ⟨a q z rfl, b q z rfl⟩
theorem InR.left {ts : List (List Int)} {r : List Int} (h : InR p one r) : InR p (one ++ ts) r := InR.mono (fun x hx => InR.mem (List.mem_append_left _ hx)) h
theorem InR.right {ts : List (List Int)} {r : List Int} (h : InR p ts r) : InR p (one ++ ts) r := InR.mono (fun x hx => InR.mem (List.mem_append_right _ hx)) h
theorem InR.join (hF : Fld p) (h1 : RowsOk p n one) (h2 : RowsOk p n other) {r : List Int} : InR p (joinR p n one other) r ↔ InR p (one ++ other) r := InR.plain hF (rowsOk_app h1 h2)
theorem pf_dim {q : Nat} [NeZero q] (hF : Fld (q : Int)) {room : List (List Int)} (h : PFR q n room) : dim invF n (room.map (toV (q := q))) = room.length := by
  have := plainR_len h.1
  rw [h.2] at this
  exact this.symm
theorem meet_sizes (hF : Fld p) (h1 : PFR p n one) (h2 : PFR p n other) : (joinR p n one other).length + (meetR p n one other).length = one.length + other.length := by
  obtain ⟨q, rfl, z, hF⟩ := to_q hF
  have g := good hF n
  have w1 : Wid n (one.map (toV (q := q))) := rows_wid h1.1
  have w2 : Wid n (other.map (toV (q := q))) := rows_wid h2.1
  have w3 : Wid n ((meetR (q : Int) n one other).map (toV (q := q))) := rows_wid (meet_pf hF).1
  have := g.sizes w1 w2 w3 (meet_mk hF h1 h2)
  rw [pf_dim hF h1, pf_dim hF h2, pf_dim hF (meet_pf hF)] at this
  rw [← this, joinR, plainR_len (rowsOk_app h1.1 h2.1), List.map_append]
  rfl
theorem meet_comm (hF : Fld p) (h1 : PFR p n one) (h2 : PFR p n other) : meetR p n other one = meetR p n one other :=
  PFR.ext hF (meet_pf hF) (meet_pf hF) (fun r hr => (InR.meet hF h1 h2 r).mpr ((InR.meet hF h2 h1 r).mp (InR.mem hr)).symm) fun r hr => (InR.meet hF h2 h1 r).mpr ((InR.meet hF h1 h2 r).mp (InR.mem hr)).symm
theorem join_comm (hF : Fld p) (h1 : RowsOk p n one) (h2 : RowsOk p n other) : joinR p n other one = joinR p n one other :=
  plain_same hF (rowsOk_app h2 h1) (rowsOk_app h1 h2) (fun r hr => InR.mem (by rw [List.mem_append] at hr ⊢; exact hr.symm)) fun r hr => InR.mem (by rw [List.mem_append] at hr ⊢; exact hr.symm)
theorem meet_assoc (hF : Fld p) {two : List (List Int)} (h1 : PFR p n one) (h2 : PFR p n other) (h3 : PFR p n two) : meetR p n (meetR p n one other) two = meetR p n one (meetR p n other two) :=
  PFR.ext hF (meet_pf hF) (meet_pf hF) (fun r hr => by
    rw [InR.meet hF h1 (meet_pf hF), InR.meet hF h2 h3]
    have := (InR.meet hF (meet_pf hF) h3 r).mp (InR.mem hr)
    rw [InR.meet hF h1 h2] at this
    exact ⟨this.1.1, this.1.2, this.2⟩) fun r hr => by
    rw [InR.meet hF (meet_pf hF) h3, InR.meet hF h1 h2]
    have := (InR.meet hF h1 (meet_pf hF) r).mp (InR.mem hr)
    rw [InR.meet hF h2 h3] at this
    exact ⟨⟨this.1, this.2.1⟩, this.2.2⟩
theorem join_assoc (hF : Fld p) {two : List (List Int)} (h1 : RowsOk p n one) (h2 : RowsOk p n other) (h3 : RowsOk p n two) : joinR p n (joinR p n one other) two = joinR p n one (joinR p n other two) := by
  have o12 := rowsOk_app h1 h2
  have o23 := rowsOk_app h2 h3
  have p12 := (join_pf hF h1 h2).1
  have p23 := (join_pf hF h2 h3).1
  refine plain_same hF (rowsOk_app p12 h3) (rowsOk_app h1 p23) (fun r hr => ?_) fun r hr => ?_
  · rcases List.mem_append.mp hr with h | h
    · refine InR.mono (fun x hx => ?_) ((InR.plain hF o12).mp (InR.mem h))
      rcases List.mem_append.mp hx with h | h
      · exact (InR.mem h).left
      · exact ((InR.plain hF o23).mpr (InR.mem h).left).right
    · exact ((InR.plain hF o23).mpr (InR.mem h).right).right
  · rcases List.mem_append.mp hr with h | h
    · exact ((InR.plain hF o12).mpr (InR.mem h).left).left
    · refine InR.mono (fun x hx => ?_) ((InR.plain hF o23).mp (InR.mem h))
      rcases List.mem_append.mp hx with h | h
      · exact ((InR.plain hF o12).mpr (InR.mem h).right).left
      · exact (InR.mem h).right
theorem all_in (hF : Fld p) (h1 : RowsOk p n one) (h2 : RowsOk p n other) : one.all (hasR p n other) = true ↔ ∀ r ∈ one, InR p other r := by
  rw [List.all_eq_true]
  exact ⟨fun h r mr => (hasR_in hF h2 (rowsOk_one (h1 r mr))).mp (h r mr), fun h r mr => (hasR_in hF h2 (rowsOk_one (h1 r mr))).mpr (h r mr)⟩
theorem meet_inside (hF : Fld p) (h1 : PFR p n one) (h2 : PFR p n other) : decide (meetR p n one other = one) = one.all (hasR p n other) := by
  rw [Bool.eq_iff_iff, decide_eq_true_iff, all_in hF h1.1 h2.1]
  constructor
  · intro e r hr
    rw [← e] at hr
    exact ((InR.meet hF h1 h2 r).mp (InR.mem hr)).2
  · intro h
    exact PFR.ext hF (meet_pf hF) h1 (fun r hr => ((InR.meet hF h1 h2 r).mp (InR.mem hr)).1) fun r hr => (InR.meet hF h1 h2 r).mpr ⟨InR.mem hr, h r hr⟩
theorem join_inside (hF : Fld p) (h1 : PFR p n one) (h2 : PFR p n other) : decide (joinR p n one other = other) = one.all (hasR p n other) := by
  rw [Bool.eq_iff_iff, decide_eq_true_iff, all_in hF h1.1 h2.1]
  constructor
  · intro e r hr
    have : InR p (joinR p n one other) r := (InR.join hF h1.1 h2.1).mpr (InR.mem hr).left
    rwa [e] at this
  · intro h
    refine PFR.ext hF (join_pf hF h1.1 h2.1) h2 (fun r hr => ?_) fun r hr => (InR.join hF h1.1 h2.1).mpr (InR.mem hr).right
    refine InR.mono (fun x hx => ?_) ((InR.join hF h1.1 h2.1).mp (InR.mem hr))
    rcases List.mem_append.mp hx with h' | h'
    · exact h x h'
    · exact InR.mem h'
end
theorem PFR.len {p : Int} {n : Nat} {room : List (List Int)} (hF : Fld p) (h : PFR p n room) : room.length ≤ n := by
  have := plainR_lenle hF h.1
  rwa [h.2] at this
end OC

set_option Elab.async false
set_option linter.all false
set_option maxRecDepth 100000
set_option maxHeartbeats 4000000
/-! across: the more a room has, the less -/
namespace OC
open PySem PySem.Spec PyProof.Rows L2 Lin
section
variable {p : Int} {n : Nat} {one other : List (List Int)}
theorem across_less (hF : Fld p) (h1 : PFR p n one) (h2 : PFR p n other) (h : ∀ r ∈ one, InR p other r) : ∀ r ∈ acrossR p n other, InR p (acrossR p n one) r := fun r hr q z e => by
  subst e
  have m := (InR.mem (p := (q : Int)) hr) q z rfl
  rw [acrossR_perp hF ((isPF_iff hF).mpr h2)] at m
  rw [acrossR_perp hF ((isPF_iff hF).mpr h1)]
  exact ⟨m.1, fun x hx => m.2 x (spn_sub_of (fun v hv => by
    obtain ⟨y, my, rfl⟩ := List.mem_map.mp hv
    exact h y my q z rfl) hx)⟩
theorem across_inside (hF : Fld p) (h1 : PFR p n one) (h2 : PFR p n other) : one.all (hasR p n other) = (acrossR p n other).all (hasR p n (acrossR p n one)) := by
  have a1 := PFR.across hF n one
  have a2 := PFR.across hF n other
  rw [Bool.eq_iff_iff, all_in hF h1.1 h2.1, all_in hF a2.1 a1.1]
  constructor
  · exact across_less hF h1 h2
  · intro h
    have := across_less hF a2 a1 h
    rwa [PFR.across_twice hF h1, PFR.across_twice hF h2] at this
theorem meet_across (hF : Fld p) (h1 : PFR p n one) (h2 : PFR p n other) : meetR p n (acrossR p n one) (acrossR p n other) = acrossR p n (joinR p n one other) := by
  unfold meetR
  rw [PFR.across_twice hF h1, PFR.across_twice hF h2]
theorem across_nought (hF : Fld p) (h : PFR p n one) {r w : List Int} (hr : r ∈ one) (hw : w ∈ acrossR p n one) : worthR p r w = 0 := across_worth hF h.1 hr (by rw [h.2]; exact hw)
/-- a row is across from a room just where each row of the room is worth 0 at it -/
theorem across_iff (hF : Fld p) (h : PFR p n one) {w : List Int} (hw : RowsOk p n [w]) : InR p (acrossR p n one) w ↔ ∀ r ∈ one, worthR p r w = 0 := by
  obtain ⟨q, rfl, z, hF⟩ := to_q hF
  have lw := hw w List.mem_cons_self
  constructor
  · intro hi r hr
    have m := hi q z rfl
    rw [acrossR_perp hF ((isPF_iff hF).mpr h)] at m
    rw [worth_zero (q := q) (h.1 r hr).1 lw.1]
    exact m.2 _ (spn_mem (List.mem_map_of_mem hr))
  · intro hi q' z' e
    have : q = q' := by omega
    subst this
    rw [acrossR_perp hF ((isPF_iff hF).mpr h)]
    exact ⟨fun i hi => toV_wid lw.1 i hi, fun x hx => spn_dot (fun r hr => (worth_zero (q := q) (h.1 r hr).1 lw.1).mp (hi r hr)) hx⟩
end
end OC
namespace OC
open PySem PySem.Spec PyProof.Rows L2
theorem code_snoc (B x : Int) : ∀ g : List Int, TS.code B (g ++ [x]) = TS.code B g * B + x
  | [] => by
    show x * B ^ 0 + 0 = 0 * B + x
    rw [Int.pow_zero]
    omega
  | d :: r => by
    show d * B ^ (r ++ [x]).length + TS.code B (r ++ [x]) = (d * B ^ r.length + TS.code B r) * B + x
    rw [code_snoc B x r, List.length_append, show r.length + [x].length = r.length + 1 from rfl, Int.pow_succ, Int.add_mul, Int.mul_assoc]
    omega
end OC
namespace OC
open PySem PySem.Spec PyProof.Rows L2
/-- all rows rise -/
theorem allR_rise (p : Nat) : ∀ n : Nat, (allR p n).Pairwise (fun x y => TS.code p x < TS.code p y)
  | 0 => List.pairwise_singleton _ _
  | n + 1 => by
    show ((allR p n).flatMap (longR p)).Pairwise _
    rw [List.pairwise_flatMap]
    refine ⟨fun g _ => ?_, (allR_rise p n).imp fun {g h} hgh x hx y hy => ?_⟩
    · unfold longR
      rw [List.pairwise_map]
      refine List.pairwise_lt_range.imp fun {a b} hab => ?_
      rw [code_snoc, code_snoc]
      omega
    · obtain ⟨a, ha, rfl⟩ := List.mem_map.mp hx
      obtain ⟨b, hb, rfl⟩ := List.mem_map.mp hy
      have ha := List.mem_range.mp ha
      rw [code_snoc, code_snoc]
      have h1 : (TS.code p g + 1) * (p : Int) ≤ TS.code p h * (p : Int) := Int.mul_le_mul_of_nonneg_right (by omega) (by omega)
      rw [Int.add_mul] at h1
      omega
theorem allR_nodup (p n : Nat) : (allR p n).Nodup := (allR_rise p n).imp fun {a b} h e => by
  subst e
  omega
end OC

set_option Elab.async false
set_option linter.all false
set_option maxRecDepth 100000
set_option maxHeartbeats 4000000
/-! rows of a room by their numbers; worlds alike -/
namespace Lin
section
variable {p : Nat} [NeZero p]
theorem lin_nought : ∀ (fs : List (Fin p)) (bs : List (Nat × Vec p)) (i : Nat), (∀ b ∈ bs, b.2 i = 0) → lin fs (bs.map (·.2)) i = 0
  | [], bs, i, _ => by rw [lin_nil]; rfl
  | _ :: _, [], _, _ => rfl
  | f :: fs, b :: bs, i, h => by
    show f * b.2 i + lin fs (bs.map (·.2)) i = 0
    rw [h b List.mem_cons_self, lin_nought fs bs i fun c hc => h c (List.mem_cons_of_mem _ hc)]
    grind
theorem lin_first {n : Nat} {B : List (Nat × Vec p)} (h : PF n B) : ∀ (bs : List (Nat × Vec p)) (fs : List (Fin p)), (∀ b ∈ bs, b ∈ B) → bs.Pairwise (fun a b => a.1 < b.1) → ∀ (j : Nat) (b : Nat × Vec p), bs[j]? = some b → lin fs (bs.map (·.2)) b.1 = fs.getD j 0
  | [], _, _, _, _, _, e => by cases e
  | c :: bs, [], _, _, j, b, _ => by
    rw [lin_nil]
    rfl
  | c :: bs, f :: fs, hB, hp, 0, b, e => by
    cases e
    rw [List.pairwise_cons] at hp
    show f * c.2 c.1 + lin fs (bs.map (·.2)) c.1 = f
    rw [h.one c (hB c List.mem_cons_self), lin_nought fs bs c.1 fun d hd => h.off d (hB d (List.mem_cons_of_mem _ hd)) c (hB c List.mem_cons_self) (by have := hp.1 d hd; omega)]
    grind
  | c :: bs, f :: fs, hB, hp, j + 1, b, e => by
    have e : bs[j]? = some b := e
    rw [List.pairwise_cons] at hp
    have mb := List.mem_of_getElem? e
    show f * c.2 b.1 + lin fs (bs.map (·.2)) b.1 = fs.getD j 0
    rw [lin_first h bs fs (fun d hd => hB d (List.mem_cons_of_mem _ hd)) hp.2 j b e, h.off c (hB c List.mem_cons_self) b (hB b (List.mem_cons_of_mem _ mb)) (by have := hp.1 b mb; omega)]
    grind
theorem red_lin : ∀ (bs : List (Nat × Vec p)) (x : Vec p), red bs x = lin (bs.map fun b => x b.1) (bs.map (·.2))
  | [], _ => rfl
  | b :: bs, x => by
    show addV (mulV (x b.1) b.2) (red bs x) = addV (mulV (x b.1) b.2) (lin (bs.map fun b => x b.1) (bs.map (·.2)))
    rw [red_lin bs x]
end
end Lin
namespace OC
open PySem PySem.Spec PyProof.Rows L2 Lin
def combR (p : Int) (n : Nat) (room : List (List Int)) (fs : List Int) : List Int := madeR p (List.replicate n 0) (room.zip fs)
section
variable {p : Int} {n : Nat} {room : List (List Int)} {fs : List Int}
theorem made_bd (hp : 0 < p) : ∀ (l : List (List Int × Int)) (z : List Int), (∀ x ∈ z, 0 ≤ x ∧ x < p) → ∀ x ∈ madeR p z l, 0 ≤ x ∧ x < p
  | [], _, h => h
  | _ :: l, _, _ => made_bd hp l _ (plus_ok hp)
theorem comb_ok (hF : Fld p) (h : PFR p n room) : RowsOk p n [combR p n room fs] := by
  have h2 := hF.1
  exact rowsOk_one ⟨made_len p n _ _ List.length_replicate fun x hx => (h.1 x.1 (List.of_mem_zip hx).1).1, made_bd (by omega) _ _ (row_noughts' (by omega) n).2⟩
theorem comb_toV {q : Nat} [NeZero q] (h : RowsOk q n room) (hl : fs.length = room.length) : toV (q := q) (combR q n room fs) = lin (fs.map (cF (q := q))) (room.map (toV (q := q))) := by
  unfold combR
  rw [toV_made room fs _ List.length_replicate (fun r hr => (h r hr).1) hl, toV_noughts, Lin.zero_add]
theorem comb_in (h : PFR p n room) (hl : fs.length = room.length) : InR p room (combR p n room fs) := fun q z e => by
  subst e
  rw [comb_toV h.1 hl]
  exact ⟨_, rfl⟩
theorem comb_at (hF : Fld p) (h : PFR p n room) (hl : fs.length = room.length) (hb : ∀ f ∈ fs, 0 ≤ f ∧ f < p) {j : Nat} {b : List Int} (hj : room[j]? = some b) : (combR p n room fs).getD (fpR b) 0 = fs.getD j 0 := by
  have okc := comb_ok (fs := fs) hF h _ List.mem_cons_self
  obtain ⟨q, rfl, z, hF⟩ := to_q hF
  obtain ⟨ok, bs, pf, e⟩ := (isPF_iff hF).mpr h
  have ld : ∀ b ∈ bs, Lead b.2 b.1 := fun b hb => pf.leads (one_ne (q2 hF)) hb
  have fe := firsts_eq room bs ok e ld
  refine cF_inj (q := q) (getD_lt q_pos okc.2 _) (getD_lt q_pos hb j) ?_
  show toV (q := q) (combR q n room fs) (fpR b) = _
  rw [comb_toV h.1 hl, ← e]
  have hjl : j < bs.length := by
    have := (List.getElem?_eq_some_iff.mp hj).1
    have l2 := congrArg List.length e
    rw [List.length_map, List.length_map] at l2
    omega
  have g : bs[j]? = some bs[j] := List.getElem?_eq_getElem hjl
  have f1 : fpR b = bs[j].1 := by
    have x1 : (room.map fpR)[j]? = some (fpR b) := by rw [List.getElem?_map, hj]; rfl
    rw [fe, List.getElem?_map, g] at x1
    exact (Option.some.inj x1).symm
  rw [f1, lin_first pf bs _ (fun _ h => h) pf.inc j bs[j] g]
  rw [List.getD_eq_getElem?_getD, List.getD_eq_getElem?_getD, List.getElem?_map]
  cases fs[j]? with
  | none => exact cF_zero.symm
  | some f => rfl
theorem comb_told (hF : Fld p) (h : PFR p n room) {r : List Int} (hr : RowsOk p n [r]) (hi : InR p room r) : combR p n room (room.map fun b => r.getD (fpR b) 0) = r := by
  have okc := comb_ok (fs := room.map fun b => r.getD (fpR b) 0) hF h _ List.mem_cons_self
  have okr := hr r List.mem_cons_self
  obtain ⟨q, rfl, z, hF⟩ := to_q hF
  obtain ⟨ok, bs, pf, e⟩ := (isPF_iff hF).mpr h
  have ld : ∀ b ∈ bs, Lead b.2 b.1 := fun b hb => pf.leads (one_ne (q2 hF)) hb
  have fe := firsts_eq room bs ok e ld
  refine toV_inj (q := q) (by rw [okc.1, okr.1]) okc.2 okr.2 ?_
  rw [comb_toV h.1 (List.length_map _), ← e]
  have ef : (room.map fun b => r.getD (fpR b) 0).map (cF (q := q)) = bs.map fun b => toV (q := q) r b.1 := by
    have : (room.map fun b => r.getD (fpR b) 0) = (room.map fpR).map fun i => r.getD i 0 := by rw [List.map_map]; rfl
    rw [this, fe, List.map_map, List.map_map]
    rfl
  rw [ef, ← red_lin]
  exact pf.told (by rw [e]; exact hi q z rfl)
end
/-! ### figures -/
def figL (p : Int) (s : Nat) (N : Int) : List Int := (List.range s).map fun i => N / p ^ i % p
def figR (p : Int) (s : Nat) (N : Int) : List Int := (figL p s N).reverse
theorem figL_succ {p : Int} (hp : 0 < p) (s : Nat) (N : Int) : figL p (s + 1) N = (N % p) :: figL p s (N / p) := by
  unfold figL
  rw [List.range_succ_eq_map, List.map_cons, List.map_map]
  congr 1
  · rw [Int.pow_zero, Int.ediv_one]
  · apply List.map_congr_left
    intro i _
    show N / p ^ (i + 1) % p = N / p / p ^ i % p
    rw [Int.pow_succ, Int.mul_comm, Int.ediv_ediv_of_nonneg (by omega)]
theorem figL_len (p : Int) (s : Nat) (N : Int) : (figL p s N).length = s := by simp [figL]
theorem figR_len (p : Int) (s : Nat) (N : Int) : (figR p s N).length = s := by simp [figR, figL]
theorem figR_bd {p : Int} (hp : 0 < p) (s : Nat) (N : Int) : ∀ f ∈ figR p s N, 0 ≤ f ∧ f < p := fun f hf => by
  obtain ⟨i, _, rfl⟩ := List.mem_map.mp (List.mem_reverse.mp hf)
  exact ⟨Int.emod_nonneg _ (by omega), Int.emod_lt_of_pos _ hp⟩
theorem figL_inj {p : Int} (hp : 0 < p) : ∀ (s : Nat) (N M : Int), 0 ≤ N → N < p ^ s → 0 ≤ M → M < p ^ s → figL p s N = figL p s M → N = M
  | 0, N, M, h1, h2, h3, h4, _ => by
    rw [Int.pow_zero] at h2 h4
    omega
  | s + 1, N, M, h1, h2, h3, h4, e => by
    rw [figL_succ hp, figL_succ hp] at e
    obtain ⟨e1, e2⟩ := List.cons.inj e
    have d := figL_inj hp s (N / p) (M / p) (Int.ediv_nonneg h1 (by omega)) (Int.ediv_lt_of_lt_mul hp (by rw [Int.pow_succ] at h2; exact h2)) (Int.ediv_nonneg h3 (by omega)) (Int.ediv_lt_of_lt_mul hp (by rw [Int.pow_succ] at h4; exact h4)) e2
    rw [← Int.mul_ediv_add_emod N p, ← Int.mul_ediv_add_emod M p, d, e1]
theorem figL_all {p : Int} (hp : 0 < p) : ∀ (s : Nat) (fs : List Int), fs.length = s → (∀ f ∈ fs, 0 ≤ f ∧ f < p) → ∃ N, 0 ≤ N ∧ N < p ^ s ∧ figL p s N = fs
  | 0, fs, l, _ => ⟨0, by omega, by rw [Int.pow_zero]; omega, by rw [List.length_eq_zero_iff.mp l]; rfl⟩
  | s + 1, [], l, _ => by cases l
  | s + 1, f :: fs, l, h => by
    obtain ⟨M, m0, m1, e⟩ := figL_all hp s fs (Nat.succ.inj l) fun x hx => h x (List.mem_cons_of_mem _ hx)
    obtain ⟨f0, f1⟩ := h f List.mem_cons_self
    refine ⟨f + p * M, ?_, ?_, ?_⟩
    · have := Int.mul_nonneg (show 0 ≤ p by omega) m0
      omega
    · rw [Int.pow_succ]
      have : p * (M + 1) ≤ p * p ^ s := Int.mul_le_mul_of_nonneg_left (by omega) (by omega)
      rw [Int.mul_add, Int.mul_one] at this
      rw [Int.mul_comm (p ^ s) p]
      omega
    · rw [figL_succ hp, Int.add_mul_emod_self_left, Int.emod_eq_of_lt f0 f1, Int.add_mul_ediv_left _ _ (by omega), Int.ediv_eq_zero_of_lt f0 f1, Int.zero_add, e]
def rowN (p : Int) (n : Nat) (room : List (List Int)) (N : Int) : List Int := combR p n room (figR p room.length N)
section
variable {p : Int} {n : Nat} {room : List (List Int)}
theorem rowN_ok (hF : Fld p) (h : PFR p n room) (N : Int) : RowsOk p n [rowN p n room N] := comb_ok hF h
theorem rowN_in (h : PFR p n room) (N : Int) : InR p room (rowN p n room N) := comb_in h (figR_len _ _ _)
theorem rowN_inj (hF : Fld p) (h : PFR p n room) {N M : Int} (n0 : 0 ≤ N) (n1 : N < p ^ room.length) (m0 : 0 ≤ M) (m1 : M < p ^ room.length) (e : rowN p n room N = rowN p n room M) : N = M := by
  have h2 := hF.1
  refine figL_inj (by omega) room.length N M n0 n1 m0 m1 ?_
  have er : figR p room.length N = figR p room.length M := by
    refine List.ext_getElem (by rw [figR_len, figR_len]) fun j h1 h2' => ?_
    rw [figR_len] at h1
    have g : room[j]? = some room[j] := List.getElem?_eq_getElem h1
    have a1 := comb_at hF h (figR_len p room.length N) (figR_bd (by omega) _ _) g
    have a2 := comb_at hF h (figR_len p room.length M) (figR_bd (by omega) _ _) g
    have e' : combR p n room (figR p room.length N) = combR p n room (figR p room.length M) := e
    rw [e', a2, gd_lt h2', gd_lt (by rw [figR_len]; exact h1)] at a1
    exact a1.symm
  have := congrArg List.reverse er
  unfold figR at this
  rwa [List.reverse_reverse, List.reverse_reverse] at this
theorem rowN_all (hF : Fld p) (h : PFR p n room) {r : List Int} (hr : RowsOk p n [r]) (hi : InR p room r) : ∃ N, 0 ≤ N ∧ N < p ^ room.length ∧ rowN p n room N = r := by
  have h2 := hF.1
  have okr := hr r List.mem_cons_self
  obtain ⟨N, n0, n1, e⟩ := figL_all (p := p) (by omega) room.length ((room.map fun b => r.getD (fpR b) 0).reverse) (by rw [List.length_reverse, List.length_map]) fun f hf => by
    obtain ⟨b, _, rfl⟩ := List.mem_map.mp (List.mem_reverse.mp hf)
    exact getD_lt (by omega) okr.2 _
  refine ⟨N, n0, n1, ?_⟩
  unfold rowN figR
  rw [e, List.reverse_reverse]
  exact comb_told hF h hr hi
theorem rowN_zero (hF : Fld p) (h : PFR p n room) : rowN p n room 0 = List.replicate n 0 := by
  have h2 := hF.1
  have e : figR p room.length 0 = room.map fun b => (List.replicate n (0 : Int)).getD (fpR b) 0 := by
    refine List.ext_getElem (by rw [figR_len, List.length_map]) fun j h1 h2' => ?_
    have hjr : j < room.length := by
      rw [List.length_map] at h2'
      exact h2'
    rw [List.getElem_map]
    have g0 : (List.replicate n (0 : Int)).getD (fpR room[j]) 0 = 0 := by
      by_cases hj : fpR room[j] < n
      · rw [gd_lt (by rw [List.length_replicate]; exact hj)]
        simp
      · exact gd_ge (by rw [List.length_replicate]; omega)
    rw [g0]
    have m := List.getElem_mem h1
    obtain ⟨i, _, ei⟩ := List.mem_map.mp (List.mem_reverse.mp m)
    rw [← ei, Int.zero_ediv, Int.zero_emod]
  unfold rowN
  rw [e]
  exact comb_told hF h (rowsOk_one (row_noughts' (by omega) n)) (InR.noughts _ _ _)
end
/-! ### worlds -/
section
variable {p : Int} {n : Nat} {r w v : List Int}
theorem worth_cF {q : Nat} [NeZero q] (hr : r.length = n) (hw : w.length = n) (hv : v.length = n) (m : Int) : cF (q := q) (worthR q r (plusR q w v m)) = cF (worthR q r w) + cF m * cF (worthR q r v) := by
  rw [worth_dot hr (by rw [plus_len (by rw [hw, hv]), hw]), worth_dot hr hw, worth_dot hr hv, toV_plus (by rw [hw, hv]), dot_comm, dot_add, dot_mul, dot_comm n (toV w), dot_comm n (toV v)]
theorem worth_moved (hF : Fld p) (hr : r.length = n) (hw : w.length = n) (hv : v.length = n) (h0 : worthR p r v = 0) : worthR p r (plusR p w v 1) = worthR p r w := by
  obtain ⟨q, rfl, z, hF⟩ := to_q hF
  refine cF_inj (q := q) (worth_bd q_pos) (worth_bd q_pos) ?_
  rw [worth_cF hr hw hv, h0, cF_zero]
  grind
theorem worth_diff (hF : Fld p) (hr : r.length = n) (hw : w.length = n) (hv : v.length = n) : worthR p r (plusR p v w (p - 1)) = 0 ↔ worthR p r w = worthR p r v := by
  obtain ⟨q, rfl, z, hF⟩ := to_q hF
  have e := worth_cF (q := q) hr hv hw ((q : Int) - 1)
  rw [cF_less (q2 hF)] at e
  constructor
  · intro h
    rw [h, cF_zero] at e
    refine cF_inj (q := q) (worth_bd q_pos) (worth_bd q_pos) ?_
    grind
  · intro h
    rw [h] at e
    refine cF_inj (q := q) (worth_bd q_pos) ⟨by omega, q_pos⟩ ?_
    rw [e, cF_zero]
    grind
theorem worth_made (hF : Fld p) {room : List (List Int)} (ok : RowsOk p n room) (hr : r.length = n) (hv : v.length = n) (hi : InR p room r) (h0 : ∀ x ∈ room, worthR p x v = 0) : worthR p r v = 0 := by
  obtain ⟨q, rfl, z, hF⟩ := to_q hF
  rw [worth_zero (q := q) hr hv]
  exact spn_dot (fun x hx => (worth_zero (q := q) (ok x hx).1 hv).mp (h0 x hx)) (hi q z rfl)
theorem plus_back (hF : Fld p) (hw : RowsOk p n [w]) (hv : RowsOk p n [v]) : plusR p w (plusR p v w (p - 1)) 1 = v := by
  have h2 := hF.1
  have okw := hw w List.mem_cons_self
  have okv := hv v List.mem_cons_self
  have l1 := plus_row (p := p) (by omega) okv.1 okw.1 (p - 1)
  have l2 := plus_row (p := p) (by omega) okw.1 l1.1 1
  obtain ⟨q, rfl, z, hF⟩ := to_q hF
  refine toV_inj (q := q) (by rw [l2.1, okv.1]) l2.2 okv.2 ?_
  rw [toV_plus (by rw [okw.1, l1.1]), toV_plus (by rw [okv.1, okw.1]), cF_less (q2 hF), cF_one (q2 hF)]
  funext i
  show toV w i + 1 * (toV v i + -1 * toV w i) = toV v i
  grind
theorem plus_inj (hF : Fld p) {u : List Int} (hw : w.length = n) (hv : RowsOk p n [v]) (hu : RowsOk p n [u]) (e : plusR p w v 1 = plusR p w u 1) : v = u := by
  have okv := hv v List.mem_cons_self
  have oku := hu u List.mem_cons_self
  obtain ⟨q, rfl, z, hF⟩ := to_q hF
  refine toV_inj (q := q) (by rw [okv.1, oku.1]) okv.2 oku.2 ?_
  have e := congrArg (toV (q := q)) e
  rw [toV_plus (by rw [hw, okv.1]), toV_plus (by rw [hw, oku.1]), cF_one (q2 hF)] at e
  funext i
  have e : toV w i + 1 * toV v i = toV w i + 1 * toV u i := congrFun e i
  grind
def alikeR (p : Int) (room : List (List Int)) (one other : List Int) : Bool := room.all fun r => decide (worthR p r one = worthR p r other)
theorem alike_moved (hF : Fld p) {room : List (List Int)} (h : PFR p n room) (hw : w.length = n) (hv : v ∈ [v]) (okv : RowsOk p n [v]) (hi : InR p (acrossR p n room) v) : ∀ r ∈ room, worthR p r (plusR p w v 1) = worthR p r w := fun r hr =>
  worth_moved hF (h.1 r hr).1 hw (okv v List.mem_cons_self).1 ((across_iff hF h okv).mp hi r hr)
/-- all worlds alike, by their numbers -/
theorem alike_all {q : Nat} (hF : Fld (q : Int)) {room : List (List Int)} (h : PFR q n room) (hw : RowsOk q n [w]) : ((List.range (q ^ (acrossR q n room).length)).map fun (N : Nat) => plusR q w (rowN q n (acrossR q n room) N) 1).Perm ((allR q n).filter fun g => alikeR q room w g) := by
  have h2 := hF.1
  have okw := hw w List.mem_cons_self
  have pa := PFR.across hF n room
  refine (List.perm_ext_iff_of_nodup ?_ ((allR_nodup q n).filter _)).mpr fun g => ?_
  · refine List.pairwise_map.mpr (List.Pairwise.imp_of_mem (fun {a b} ha hb hab e => hab ?_) (List.nodup_range))
    have ha := List.mem_range.mp ha
    have hb := List.mem_range.mp hb
    have pw : ((q ^ (acrossR (q : Int) n room).length : Nat) : Int) = (q : Int) ^ (acrossR (q : Int) n room).length := Int.natCast_pow ..
    have := rowN_inj hF pa (N := a) (M := b) (by omega) (by omega) (by omega) (by omega) (plus_inj hF okw.1 (rowN_ok hF pa _) (rowN_ok hF pa _) e)
    omega
  · rw [List.mem_filter]
    constructor
    · intro hg
      obtain ⟨N, hN, rfl⟩ := List.mem_map.mp hg
      have okv := rowN_ok hF pa (N : Int)
      have okp := plus_row (p := (q : Int)) (by omega) okw.1 (okv _ List.mem_cons_self).1 1
      refine ⟨allR_all okp.1 okp.2, List.all_eq_true.mpr fun r hr => decide_eq_true ?_⟩
      exact (alike_moved hF h okw.1 List.mem_cons_self okv (rowN_in pa _) r hr).symm
    · rintro ⟨hg, ha⟩
      have okg : RowsOk q n [g] := rowsOk_one (allR_ok hg)
      have okg' := okg g List.mem_cons_self
      have okd : RowsOk q n [plusR q g w ((q : Int) - 1)] := rowsOk_one (plus_row (by omega) okg'.1 okw.1 _)
      have hin : InR q (acrossR q n room) (plusR q g w ((q : Int) - 1)) := (across_iff hF h okd).mpr fun r hr => (worth_diff hF (h.1 r hr).1 okw.1 okg'.1).mpr (of_decide_eq_true (List.all_eq_true.mp ha r hr))
      obtain ⟨N, n0, n1, e⟩ := rowN_all hF pa okd hin
      refine List.mem_map.mpr ⟨N.toNat, List.mem_range.mpr ?_, ?_⟩
      · have : ((N.toNat : Nat) : Int) < ((q ^ (acrossR (q : Int) n room).length : Nat) : Int) := by
          rw [Int.natCast_pow]
          omega
        omega
      · rw [show ((N.toNat : Nat) : Int) = N by omega, e]
        exact plus_back hF hw okg
theorem plus_noughts (hF : Fld p) (hw : RowsOk p n [w]) : plusR p w (List.replicate n 0) 1 = w := by
  have h2 := hF.1
  have okw := hw w List.mem_cons_self
  have l1 := plus_row (p := p) (by omega) okw.1 (row_noughts' (p := p) (by omega) n).1 1
  obtain ⟨q, rfl, z, hF⟩ := to_q hF
  refine toV_inj (q := q) (by rw [l1.1, okw.1]) l1.2 okw.2 ?_
  rw [toV_plus (by rw [okw.1, List.length_replicate]), toV_noughts, cF_one (q2 hF)]
  funext i
  show toV w i + 1 * 0 = toV w i
  grind
theorem moved_same (hF : Fld p) {far : List (List Int)} (h : PFR p n far) (hw : RowsOk p n [w]) {N : Int} (n0 : 0 ≤ N) (n1 : N < p ^ far.length) : decide (plusR p w (rowN p n far N) 1 = w) = decide (N = 0) := by
  have h2 := hF.1
  have okw := hw w List.mem_cons_self
  refine decide_eq_decide.mpr ⟨fun e => ?_, fun e => ?_⟩
  · have e2 := e.trans (plus_noughts hF hw).symm
    rw [← rowN_zero hF h] at e2
    exact rowN_inj hF h n0 n1 (by omega) (Int.pow_pos (by omega)) (plus_inj hF okw.1 (rowN_ok hF h _) (rowN_ok hF h _) e2)
  · rw [e, rowN_zero hF h]
    exact plus_noughts hF hw
theorem alike_true {room : List (List Int)} {x y : List Int} (h : ∀ r ∈ room, worthR p r y = worthR p r x) : alikeR p room x y = true := List.all_eq_true.mpr fun r hr => decide_eq_true (h r hr).symm
theorem alike_left {room : List (List Int)} {x x' y : List Int} (h : ∀ r ∈ room, worthR p r x' = worthR p r x) : alikeR p room x' y = alikeR p room x y := by
  unfold alikeR
  rw [Bool.eq_iff_iff, List.all_eq_true, List.all_eq_true]
  constructor
  · intro a r hr
    rw [← h r hr]
    exact a r hr
  · intro a r hr
    rw [h r hr]
    exact a r hr
end
end OC

set_option Elab.async false
set_option linter.all false
set_option maxRecDepth 100000
set_option maxHeartbeats 4000000
/-! the drawn numbers of the laws over stands: a list of cells, a count, a list of rests -/
namespace OC
open PySem PySem.Spec PyProof.Rows L2
structure Drw (H : Hp) (d c e : Addr) (t : Int) : Prop where
  hd : H d = some (.lst [.ref c, .int t, .ref e])
  hc : ∃ cells rests : List Int, H c = some (.lst (cells.map V.int)) ∧ H e = some (.lst (rests.map V.int)) ∧ cells.length = rests.length ∧ 0 < cells.length ∧ cells.length ≤ 63 ∧ ∀ x ∈ rests, 0 ≤ x
  cd : c ≠ d
  ed : e ≠ d
  ce : c ≠ e
  t0 : 0 ≤ t
section
variable {H H' : Hp} {d c e : Addr} {t : Int}
theorem Drw.same (D : Drw H d c e t) (s : Same H H') : Drw H' d c e t := by
  obtain ⟨hd, ⟨cells, rests, h1, h2, h3⟩, a, b, f, t0⟩ := D
  exact ⟨s _ _ hd, ⟨cells, rests, s _ _ h1, s _ _ h2, h3⟩, a, b, f, t0⟩
/-- one of the three lists -/
def Bd3 (d c e : Addr) : Addr → Prop := fun a => a = d ∨ a = c ∨ a = e
theorem Drw.fresh (D : Drw H d c e t) {p : Addr} (n : H p = none) : ¬ Bd3 d c e p := by
  obtain ⟨hd, ⟨cells, rests, h1, h2, h3⟩, _⟩ := D
  rintro (z | z | z)
  · subst z; rw [hd] at n; cases n
  · subst z; rw [h1] at n; cases n
  · subst z; rw [h2] at n; cases n
theorem Drw.mut (D : Drw H d c e t) {B : Addr} {o : HO} (b : ¬ Bd3 d c e B) : Drw (upd H B o) d c e t := by
  obtain ⟨hd, ⟨cells, rests, h1, h2, h3⟩, x, y, z, t0⟩ := D
  exact ⟨by rw [upd_ne (fun z => b (.inl z.symm))]; exact hd, ⟨cells, rests, by rw [upd_ne (fun z => b (.inr (.inl z.symm)))]; exact h1, by rw [upd_ne (fun z => b (.inr (.inr z.symm)))]; exact h2, h3⟩, x, y, z, t0⟩
theorem Drw.tup {K : PySem.W.Frag} (D : Drw H d c e t) (k : Kept d e H H') {a : Addr} {xs : List V} (h : SqT K H a xs) : SqT K H' a xs := by
  obtain ⟨hd, ⟨cells, rests, h1, h2, h3⟩, _⟩ := D
  rcases h with (h | ⟨o, h⟩) | h
  · exact .inl (.inl (k _ _ h (fun z => by subst z; rw [hd] at h; cases h) (fun z => by subst z; rw [h2] at h; cases h)))
  · exact .inl (.inr ⟨o, k _ _ h (fun z => by subst z; rw [hd] at h; cases h) (fun z => by subst z; rw [h2] at h; cases h)⟩)
  · exact .inr h
theorem Drw.tk (D : Drw H d c e t) (k : Kept d e H H') : Tk H H' := fun _ _ _ h => D.tup k h
theorem Drw.rows {K : PySem.W.Frag} (D : Drw H d c e t) (k : Kept d e H H') {a : Addr} {rs : List (List Int)} (h : RowsAt K H a rs) : RowsAt K H' a rs := by
  obtain ⟨ws, h1, h2⟩ := h
  exact ⟨ws, D.tup k h1, dpAll_tk (D.tk k) _ _ (noL_rows rs) h2⟩
theorem Drw.lst (k : Kept d e H H') {a : Addr} {o : HO} (b : ¬ Bd3 d c e a) (h : H a = some o) : H' a = some o := k _ _ h (fun z => b (.inl z)) (fun z => b (.inr (.inr z)))
end
theorem wide_m4 {m : Int} (h0 : 0 < m) (h1 : m < 100000000000000000000) : m.natAbs.log2 < 9000 := by
  have e : (2 : Nat) ^ 67 = 147573952589676412928 := by decide
  have := PySem.Flt.log2_lt_of (k := 67) (n := m.natAbs) (by decide) (by rw [e]; omega)
  omega
theorem sql_same {K : PySem.W.Frag} {H H' : Hp} {a : Addr} {xs : List V} (e : Same H H') (h : SqL K H a xs) : SqL K H' a xs := by
  rcases h with (h | ⟨o, h⟩) | h
  · exact .inl (.inl (e _ _ h))
  · exact .inl (.inr ⟨o, e _ _ h⟩)
  · exact .inr h
def bigI (x : Int) : Int := x * (if decide (x ≥ 10 ^ 18) = true then 1 else 0)
theorem bigI_pos (x : Int) : 0 ≤ bigI x := by
  unfold bigI
  by_cases h : x ≥ 10 ^ 18
  · rw [if_pos (decide_eq_true h), Int.mul_one]
    exact Int.le_trans (by decide) h
  · rw [if_neg (fun z => h (of_decide_eq_true z)), Int.mul_zero]
    exact Int.le_refl _
end OC

set_option Elab.async false
set_option linter.all false
set_option maxRecDepth 100000
set_option maxHeartbeats 4000000
namespace OC
open PySem PySem.Spec PyProof.Rows L2
/-- a name: one to eight small letters -/
def NameOk (s : Str) : Prop := 1 ≤ s.length ∧ s.length ≤ 8 ∧ ∀ c ∈ s.cps.toList, 97 ≤ c ∧ c ≤ 122
def nameL (st : List Nat) (k c : Nat) : List Nat := st.take k ++ ([c] ++ st.drop k)
theorem nameL_inj {st : List Nat} {k c c' : Nat} (h : nameL st k c = nameL st k c') : c = c' := by
  unfold nameL at h
  have := List.append_cancel_left h
  exact (List.cons.inj this).1
theorem nameL_len (st : List Nat) (k c : Nat) : (nameL st k c).length = st.length + 1 := by
  unfold nameL
  rw [List.length_append, List.length_append, List.length_take, List.length_drop]
  simp only [List.length_cons, List.length_nil]
  omega
theorem nameL_ok {st : List Nat} {k c : Nat} (h : ∀ x ∈ st, 97 ≤ x ∧ x ≤ 122) (hl : st.length ≤ 7) (hc : 97 ≤ c ∧ c ≤ 122) : NameOk (SX.S (nameL st k c)) := by
  have e := SX.S_len (nameL st k c)
  rw [nameL_len] at e
  refine ⟨by omega, by omega, fun x hx => ?_⟩
  have hx : x ∈ nameL st k c := hx
  unfold nameL at hx
  rcases List.mem_append.mp hx with hx | hx
  · exact h x (List.mem_of_mem_take hx)
  · rcases List.mem_append.mp hx with hx | hx
    · rw [List.mem_singleton.mp hx]
      exact hc
    · exact h x (List.mem_of_mem_drop hx)
theorem step_inj {f s : Int} {i j : Nat} (hs : s = 1 ∨ s = 3 ∨ s = 5 ∨ s = 7 ∨ s = 9 ∨ s = 11 ∨ s = 15 ∨ s = 17) (hi : i < 26) (hj : j < 26) (h : (f + s * i) % 26 = (f + s * j) % 26) : i = j := by
  rcases hs with rfl | rfl | rfl | rfl | rfl | rfl | rfl | rfl
  all_goals omega
def lettersS : Str := "abcdefghijklmnopqrstuvwxyz"
theorem letters_at {i : Int} (h0 : 0 ≤ i) (h1 : i < 26) : atI lettersS.cps.toList i = some (97 + i.toNat) := by
  have a : ∀ k : Fin 26, atI lettersS.cps.toList (k.val : Int) = some (97 + k.val) := by decide +kernel
  have := a ⟨i.toNat, by omega⟩
  rw [show ((⟨i.toNat, by omega⟩ : Fin 26).val : Int) = i from Int.toNat_of_nonneg h0] at this
  exact this
theorem letters_len : lettersS.length = 26 := by decide +kernel
theorem join_ones : ∀ cs : List Nat, TL.joinL [] (cs.map fun c => [c]) = cs := by
  intro cs
  induction cs with
  | nil => rfl
  | cons c cs ih =>
    cases cs with
    | nil => rfl
    | cons d cs =>
      have : TL.joinL [] ((c :: d :: cs).map fun c => [c]) = [c] ++ ([] ++ TL.joinL [] ((d :: cs).map fun c => [c])) := rfl
      rw [this, ih]
      rfl
theorem ones_sum : ∀ cs : List Nat, ((cs.map fun c => SX.S [c]).map (·.length)).sum = cs.length := by
  intro cs
  induction cs with
  | nil => rfl
  | cons c cs ih =>
    rw [List.map_cons, List.map_cons, List.sum_cons, ih, SX.S_len, List.length_cons]
    simp only [List.length_cons, List.length_nil]
    omega
theorem join_cs (cs : List Nat) : Txt.join (Str.ofString "") (cs.map fun c => SX.S [c]) = SX.S cs := by
  have e := SX.join_S [] (cs.map fun c => [c])
  rw [List.map_map, join_ones] at e
  exact e
def nameAt (st : List Nat) (cut f s : Int) (k : Nat) : Str := SX.S (nameL st cut.toNat (97 + ((f + s * k) % 26).toNat))
theorem names_nodup {st : List Nat} {cut f s : Int} (hs : s = 1 ∨ s = 3 ∨ s = 5 ∨ s = 7 ∨ s = 9 ∨ s = 11 ∨ s = 15 ∨ s = 17) {m : Nat} (hm : m ≤ 26) : ((List.range m).map (nameAt st cut f s)).Nodup := by
  refine List.pairwise_map.mpr ((List.nodup_range (n := m)).imp_of_mem fun {i j} hi hj hne h => hne ?_)
  have hi := List.mem_range.mp hi
  have hj := List.mem_range.mp hj
  have h := nameL_inj (SX.S_inj h)
  refine step_inj (f := f) hs (by omega) (by omega) ?_
  have := Int.emod_nonneg (f + s * i) (b := 26) (by decide)
  have := Int.emod_nonneg (f + s * j) (b := 26) (by decide)
  omega
theorem nameAt_ok {st : List Nat} {cut f s : Int} {k : Nat} (h : ∀ x ∈ st, 97 ≤ x ∧ x ≤ 122) (hl : st.length ≤ 7) : NameOk (nameAt st cut f s k) := by
  refine nameL_ok h hl ?_
  have := Int.emod_nonneg (f + s * k) (b := 26) (by decide)
  have := Int.emod_lt_of_pos (f + s * k) (b := 26) (by decide)
  omega
end OC

set_option Elab.async false
set_option linter.all false
set_option maxRecDepth 100000
set_option maxHeartbeats 4000000
namespace OC
open PySem PySem.Spec PyProof.Rows L2
/-- a statement that is never reached -/
theorem ps_dead {X : Cx} {st : Stmt} : PS X st (fun _ _ _ => False) := ⟨fun _ _ _ _ _ _ h => h.elim⟩
def handD (h : Str × List (List Int)) : PyData := .tuple [.str h.1, .tuple (h.2.map rowD)]
/-- a stand as data -/
def standD (p : Int) (n : Nat) (kn : List (List Int)) (hs : List (Str × List (List Int))) : PyData := .tuple [.int p, .int n, .tuple (kn.map rowD), .tuple (hs.map handD)]
theorem noL_hands : ∀ hs : List (Str × List (List Int)), noLAll (hs.map handD) = true
  | [] => rfl
  | h :: hs => by
    have a : noL (handD h) = true := by
      unfold handD
      simp only [noL, noLAll, noL_rows, Bool.and_true]
    rw [List.map_cons]
    simp only [noLAll, a, noL_hands hs, Bool.and_true]
theorem noL_stand (p : Int) (n : Nat) (kn : List (List Int)) (hs : List (Str × List (List Int))) : noL (standD p n kn hs) = true := by
  unfold standD
  simp only [noL, noLAll, noL_rows, noL_hands, Bool.and_true]
theorem fld_stand {p : Int} (h : p = 5 ∨ p = 7 ∨ p = 11 ∨ p = 101) : Fld p := by
  rcases h with rfl | rfl | rfl | rfl
  · exact fld_of (p := 5) (by decide +kernel)
  · exact fld_of (p := 7) (by decide +kernel)
  · exact fld_of (p := 11) (by decide +kernel)
  · exact fld_of (p := 101) (by decide +kernel)
/-- a drawn stand -/
structure StandOk (p : Int) (n : Nat) (heard : List (List Int)) (hs : List (Str × List (List Int))) : Prop where
  p4 : p = 5 ∨ p = 7 ∨ p = 11 ∨ p = 101
  n1 : 1 ≤ n
  n8 : n ≤ 8
  ok : RowsOk p n heard
  lh : heard.length ≤ 2
  few : 2 ≤ hs.length
  many : hs.length ≤ 9
  srt : sortedS (hs.map Prod.fst) = true
  nd : (hs.map Prod.fst).Nodup
  nm : ∀ x ∈ hs.map Prod.fst, NameOk x
  rm : ∀ h ∈ hs, ∃ more, RowsOk p n more ∧ more.length ≤ 7 ∧ h.2 = plainR p n (heard ++ more)
/-- a comprehension of drawn rows -/
theorem lc_rows3 {K : PySem.W.Frag} {d c : Addr} {t p : Int} {n m : Nat} {σ : L2.St} {H : Hp} {Qd : Addr → Hp → Prop} {i : Nat} {sl : List Nat} {te : TE} (D0 : Deck H d c t) (hm : m ≤ 100) (hw : ∀ x : Option V, wipe ((wipe σ sl).set i x) sl = wipe σ sl)
    (hte : ∀ (x : V) (k : Nat) (t' : Int) (H' : Hp) (Q' : VK), Deck H' d c t' → t' ≤ t + 20 * k → k < m → (∀ H'' t'' a r, Kept d c H' H'' → Deck H'' d c t'' → t'' ≤ t' + 20 → H'' a = some (.tup (r.map V.int)) → RowsOk p n [r] → Q' (.ref a) H'') → te ((wipe σ sl).set i (some x)) H' Q')
    (hd : ∀ (D : Addr) (H' : Hp) (t' : Int) (ws : List V) (rs : List (List Int)), Kept d c H H' → Deck H' d c t' → t' ≤ t + 20 * m → H D = none → H' D = some (.lst ws) → DpAll K H' ws (rs.map rowD) → rs.length = m → RowsOk p n rs → Qd D H') :
    LcGoal (Itr 0 m) (gName i) tYes te sl σ H Qd := by
  intro D nD
  have bD := D0.fresh nD
  refine lc_range (lo := 0) (n := m) (fun k H' => Kept d c H H' ∧ ∃ (t' : Int) (ws : List V) (rs : List (List Int)), Deck H' d c t' ∧ t' ≤ t + 20 * k ∧ H' D = some (.lst ws) ∧ DpAll K H' ws (rs.map rowD) ∧ rs.length = k ∧ RowsOk p n rs) ⟨Kept.of (same_upd nD), t, [], [], D0.same (same_upd nD), by omega, upd_same, .nil, rfl, fun x hx => nomatch hx⟩ (fun k H' hk hW => ?_) (fun H' hW => ?_)
  · obtain ⟨k', t', ws, rs, D', ht', eB, dp, ln, ro⟩ := hW
    refine ⟨hw _, hte _ k t' H' _ D' ht' hk fun H1 t1 a r k1 D1 ht1 ea okr => ?_⟩
    have eB1 := k1 _ _ eB (fun z => bD (.inl z)) (fun z => bD (.inr z))
    have na : D ≠ a := fun z => by subst z; rw [eB1] at ea; cases ea
    have lw := dpAll_len dp
    rw [List.length_map] at lw
    have tk : Tk H1 (upd H1 D (.lst (ws ++ [.ref a]))) := (Tk.refl _).mut eB1
    refine ⟨ws, eB1, small1000 (by omega), (k'.trans k1).mut nD, t1, ws ++ [.ref a], rs ++ [r], D1.mut bD, by omega, upd_same, ?_, by rw [List.length_append, ln]; rfl, fun y hy => ?_⟩
    · rw [List.map_append]
      refine dpAll_append (dpAll_tk tk _ _ (noL_rows rs) (dpAll_tk (Tk.kept D' k1) _ _ (noL_rows rs) dp)) (.cons (.tup (.inl (.inl ?_)) (dpAll_ints r)) .nil)
      rw [upd_ne (Ne.symm na)]
      exact ea
    · rcases List.mem_append.mp hy with h | h
      · exact ro y h
      · rw [List.mem_singleton.mp h]
        exact okr r List.mem_cons_self
  · obtain ⟨k', t', ws, rs, D', ht', eB, dp, ln, ro⟩ := hW
    exact hd D H' t' ws rs k' D' ht' nD eB dp ln ro
/-- some rows of a list, drawn -/
theorem lc_pick3 {K : PySem.W.Frag} {d c a : Addr} {t p : Int} {n : Nat} {vs : List V} {rs : List (List Int)} {σ : L2.St} {H : Hp} {Qd : Addr → Hp → Prop} {i : Nat} {sl : List Nat} {tt : TT} (D0 : Deck H d c t) (hA : H a = some (.lst vs)) (bA : ¬ Bad d c a) (hD : DpAll K H vs (rs.map rowD)) (ok : RowsOk p n rs) (hm : rs.length ≤ 100) (hw : ∀ x : Option V, wipe ((wipe σ sl).set i x) sl = wipe σ sl) (hi : i < (wipe σ sl).length)
    (htt : ∀ (v : V) (t' : Int) (H' : Hp) (Q' : Bool → Hp → Prop), Deck H' d c t' → t' ≤ t + 100 → (∀ H'' (b : Bool), Kept d c H' H'' → Deck H'' d c (t' + 1) → Q' b H'') → tt ((wipe σ sl).set i (some v)) H' Q')
    (hd : ∀ (D : Addr) (H' : Hp) (t' : Int) (ws : List V) (gs : List (List Int)), Kept d c H H' → Deck H' d c t' → t' ≤ t + rs.length → H D = none → H' D = some (.lst ws) → DpAll K H' ws (gs.map rowD) → gs.length ≤ rs.length → RowsOk p n gs → Qd D H') :
    LcGoal (Itl K a) (gName i) tt (tVar i) sl σ H Qd := by
  intro D nD
  have bD := D0.fresh nD
  have lv := dpAll_len hD
  rw [List.length_map] at lv
  refine lc_it (walk_list (K := K) (a := a) (xs := vs)) (fun k H' => Kept d c H H' ∧ ∃ (t' : Int) (ws : List V) (gs : List (List Int)), Deck H' d c t' ∧ t' ≤ t + k ∧ H' D = some (.lst ws) ∧ DpAll K H' ws (gs.map rowD) ∧ gs.length ≤ k ∧ RowsOk p n gs) ⟨Kept.of (same_upd nD), t, [], [], D0.same (same_upd nD), by omega, upd_same, .nil, Nat.le_refl _, fun x hx => nomatch hx⟩ (fun k H' _ hP => .inl (.inl (hP.1 _ _ hA (fun z => bA (.inl z)) (fun z => bA (.inr z))))) (fun k x H1 H2 hk hP hY => ?_) (fun H' hP => ?_)
  · obtain ⟨rfl, e1⟩ := hY
    obtain ⟨k', t', ws, gs, D', ht', eB, dp, ln, ro⟩ := hP
    obtain ⟨b, r, rfl, gr, mr, hb⟩ := dpAll_row hD e1
    refine ⟨hw _, htt _ t' _ _ D' (by omega) fun H3 q k3 D3 => ?_⟩
    have eB3 := k3 _ _ eB (fun z => bD (.inl z)) (fun z => bD (.inr z))
    have dp3 := dpAll_tk (Tk.kept D' k3) _ _ (noL_rows gs) dp
    cases q
    · exact iteF ⟨k'.trans k3, t' + 1, ws, gs, D3, by omega, eB3, dp3, by omega, ro⟩
    · have lw := dpAll_len dp
      rw [List.length_map] at lw
      have tk : Tk H3 (upd H3 D (.lst (ws ++ [.ref b]))) := (Tk.refl _).mut eB3
      refine iteT ⟨.ref b, by rw [List.getElem?_set_self hi], ws, eB3, small1000 (by omega), (k'.trans k3).mut nD, t' + 1, ws ++ [.ref b], gs ++ [r], D3.mut bD, by omega, upd_same, ?_, by rw [List.length_append]; simp only [List.length_cons, List.length_nil]; omega, fun y hy => ?_⟩
      · rw [List.map_append]
        exact dpAll_append (dpAll_tk tk _ _ (noL_rows gs) dp3) (.cons (dp_tk ((Tk.kept D0 (k'.trans k3)).trans tk) (rowD r) _ (noL_row r) (.tup hb (dpAll_ints r))) .nil)
      · rcases List.mem_append.mp hy with h | h
        · exact ro y h
        · rw [List.mem_singleton.mp h]
          exact ok r mr
  · obtain ⟨k', t', ws, gs, D', ht', eB, dp, ln, ro⟩ := hP
    exact hd D H' t' ws gs k' D' (by omega) nD eB dp (by omega) ro
theorem dp_stand {K : PySem.W.Frag} {H : Hp} {v : V} {p : Int} {n : Nat} {kn : List (List Int)} {hs : List (Str × List (List Int))} (h : Dp K H v (standD p n kn hs)) :
    ∃ (a k g : Addr) (wg : List V), v = .ref a ∧ SqT K H a [.int p, .int n, .ref k, .ref g] ∧ RowsAt K H k kn ∧ SqT K H g wg ∧ DpAll K H wg (hs.map handD) := by
  unfold standD at h
  cases h with
  | tup h1 h2 =>
    cases h2 with
    | cons a1 h2 =>
      cases a1
      cases h2 with
      | cons a2 h2 =>
        cases a2
        cases h2 with
        | cons a3 h2 =>
          cases h2 with
          | cons a4 h2 =>
            cases h2
            cases a3 with
            | tup q1 q2 =>
              cases a4 with
              | tup q3 q4 => exact ⟨_, _, _, _, rfl, h1, ⟨_, q1, q2⟩, q3, q4⟩
theorem dp_hand {K : PySem.W.Frag} {H : Hp} {v : V} {h : Str × List (List Int)} (d : Dp K H v (handD h)) : ∃ (b r : Addr), v = .ref b ∧ SqT K H b [.str h.1, .ref r] ∧ RowsAt K H r h.2 := by
  unfold handD at d
  cases d with
  | tup h1 h2 =>
    cases h2 with
    | cons a1 h2 =>
      cases a1
      cases h2 with
      | cons a2 h2 =>
        cases h2
        cases a2 with
        | tup q1 q2 => exact ⟨_, _, rfl, h1, ⟨_, q1, q2⟩⟩
theorem dpAll_hand {K : PySem.W.Frag} {H : Hp} {wg : List V} {hs : List (Str × List (List Int))} {i : Nat} {v : V} (h : DpAll K H wg (hs.map handD)) (e : wg[i]? = some v) : ∃ (b r : Addr) (x : Str × List (List Int)), v = .ref b ∧ hs[i]? = some x ∧ x ∈ hs ∧ SqT K H b [.str x.1, .ref r] ∧ RowsAt K H r x.2 := by
  obtain ⟨d, g, _, dp⟩ := dpAll_get h e
  rw [List.getElem?_map] at g
  obtain ⟨x, hx, rfl⟩ := Option.map_eq_some_iff.mp g
  obtain ⟨b, r, e1, e2, e3⟩ := dp_hand dp
  exact ⟨b, r, x, e1, hx, List.mem_of_getElem? hx, e2, e3⟩
/-- the rows of those hands whose names are asked for -/
def selR (ns : List Str) (hs : List (Str × List (List Int))) : List (List Int) := hs.flatMap fun h => if h.1 ∈ ns then h.2 else []
theorem sel_take {ns : List Str} {hs : List (Str × List (List Int))} {i : Nat} {x : Str × List (List Int)} (h : hs[i]? = some x) : selR ns (hs.take (i + 1)) = selR ns (hs.take i) ++ (if x.1 ∈ ns then x.2 else []) := by
  unfold selR
  rw [List.take_add_one, h, List.flatMap_append]
  congr 1
  simp only [Option.toList, List.flatMap_cons, List.flatMap_nil, List.append_nil]
theorem sel_ok {p : Int} {n : Nat} {ns : List Str} {hs : List (Str × List (List Int))} (h : ∀ x ∈ hs, RowsOk p n x.2) : RowsOk p n (selR ns hs) := by
  intro r hr
  obtain ⟨x, hx, hr⟩ := List.mem_flatMap.mp hr
  by_cases hn : x.1 ∈ ns
  · rw [if_pos hn] at hr
    exact h x hx r hr
  · rw [if_neg hn] at hr
    cases hr
theorem sel_len {ns : List Str} {B : Nat} : ∀ {hs : List (Str × List (List Int))}, (∀ x ∈ hs, x.2.length ≤ B) → (selR ns hs).length ≤ B * hs.length
  | [], _ => Nat.zero_le _
  | x :: hs, h => by
    have a := sel_len (ns := ns) (hs := hs) (fun y hy => h y (List.mem_cons_of_mem _ hy))
    have b := h x List.mem_cons_self
    have e : selR ns (x :: hs) = (if x.1 ∈ ns then x.2 else []) ++ selR ns hs := rfl
    rw [e, List.length_append, List.length_cons, Nat.mul_add, Nat.mul_one]
    by_cases hn : x.1 ∈ ns
    · rw [if_pos hn]
      omega
    · rw [if_neg hn, List.length_nil]
      omega
theorem flat_strs : ∀ ns : List Str, (ns.map V.str).all flatV = true
  | [] => rfl
  | x :: ns => by
    rw [List.map_cons, List.all_cons, flat_strs ns]
    rfl
theorem in_strs (x : Str) (ns : List Str) : inV (.str x) (ns.map V.str) = decide (x ∈ ns) := by
  unfold inV
  rw [List.any_map]
  by_cases h : x ∈ ns
  · rw [decide_eq_true h]
    refine List.any_eq_true.mpr ⟨x, h, ?_⟩
    show (x == x) = true
    exact beq_self_eq_true x
  · rw [decide_eq_false h]
    refine List.any_eq_false.mpr fun y hy e => h ?_
    have e : (y == x) = true := e
    rw [← eq_of_beq e]
    exact hy
end OC

set_option Elab.async false
set_option linter.all false
set_option maxRecDepth 100000
set_option maxHeartbeats 4000000
namespace OC
open PySem PySem.Spec PyProof.Rows L2
section
variable {prog : Program} {w : World} {A : Around} {E : Value → Shared → Prop} {s : Shared} {l : Addr} {its : List Value} {ns : List Int} {Q : Value → Shared → Prop}
/-- max of a tuple of ints, in the model -/
theorem max_tupI (hh : A.handled = none) (hl : s.heap.IsTuple l its.toArray) (hi : IntsAre its ns) (hne : 0 < ns.length)
    (h : ∀ h' tk M t', (∀ b o, s.heap.get? b = some o → h'.get? b = some o) → M ∈ ns → (∀ a, a ∈ ns → a ≤ M) → Q (.int M t') { s with heap := h', toks := tk }) : wpAny (model prog w) A (call (.builtin "max") [.ref l]) Q E s := by
  obtain ⟨xs, e⟩ := hi.allInts.items
  have hn : numsOf (intItems xs).toList = ns := by rw [← e]; exact hi.numsOf
  rw [nums_intItems] at hn
  subst hn
  rw [e] at hl
  have hsz : 0 < xs.size := by simpa using hne
  have hlt : l < s.heap.objs.size := by obtain ⟨_, e, _⟩ := hl; exact Heap.lt_size e
  refine call_max_walk (wpAny_pyIter_tuple hl ?_)
  refine ⟨_, [_, l], [_], _, _, _, _, rfl, Walks.tuple (A := A.in1) hh _ l (Nat.ne_of_lt hlt) (intItems xs), ⟨⟨_, Heap.get?_push_size _ rfl, rfl, rfl⟩, hl.push _⟩, fun c hc => ?_, by simpa [intItems] using hsz, CmpOf.ints_gt (numAt xs) (fun _ _ => intItems_at), fun v h' tk hP hk => ?_⟩
  · show c < (s.heap.push _).objs.size
    rw [Heap.size_push]
    rcases List.mem_cons.mp hc with rfl | hc
    · exact Nat.lt_succ_self _
    · rcases List.mem_cons.mp hc with rfl | hc
      · exact Nat.lt_succ_of_lt hlt
      · cases hc
  · have hold : ∀ c o, s.heap.get? c = some o → h'.get? c = some o := fun c o e => by
      refine hk c o (fun hm => ?_) (Heap.get?_push_of_some _ e)
      rcases List.mem_cons.mp hm with e1 | hm
      · exact absurd (e1 ▸ Heap.lt_size e) (Nat.lt_irrefl _)
      · cases hm
    obtain ⟨t, rfl⟩ := intItems_at hP
    obtain ⟨h1, h2⟩ := argBest_gt (numAt xs) (xs.size - 1)
    have ez : (intItems xs).size - 1 = xs.size - 1 := by simp [intItems]
    rw [ez]
    refine h h' tk _ t hold ?_ fun a ha => ?_
    · rw [numAt_eq]; exact PySem.getD_mem (by rw [List.length_map, Array.length_toList]; omega)
    · obtain ⟨j, hj, rfl⟩ := mem_getD ha
      rw [List.length_map, Array.length_toList] at hj
      rw [← numAt_eq]; exact h2 j (by omega)
end
def rMaxI (K : PySem.W.Frag) : List V → Hp → VK → Prop := fun vs H Q => ∃ (a : Addr) (ns : List Int), vs = [V.ref a] ∧ SqT K H a (ns.map V.int) ∧ 0 < ns.length ∧ ∀ m, m ∈ ns → (∀ y, y ∈ ns → y ≤ m) → Q (.int m) H
theorem cr_maxI {X : Cx} (hc : X.calm = true) : CallR X (.builtin "max") (rMaxI X.K) := by
  intro pins s σ H vs us Q I r h
  obtain ⟨a, ns, rfl, hs, hne, q⟩ := h
  obtain ⟨its, rv, hl, _⟩ := I.tuple hs
  rw [Vals.ref1 r]
  exact max_tupI (I.ok.hd hc) hl rv.ints hne fun h' tk m t' hk h1 h2 => ⟨.int _, H, I.kept hk, ⟨_, rfl⟩, q m h1 h2⟩
end OC

set_option Elab.async false
set_option linter.all false
set_option maxRecDepth 100000
set_option maxHeartbeats 4000000
namespace OC
open PySem PySem.Spec PyProof.Rows L2
theorem zero_iff {n : Nat} {l : List Int} (h : l.length = n) : (∀ y ∈ l, y = 0) ↔ l = List.replicate n 0 := by
  rw [List.eq_replicate_iff]
  exact ⟨fun z => ⟨h, z⟩, fun z => z.2⟩
theorem PFR.rows {p : Int} {n : Nat} {room : List (List Int)} (h : PFR p n room) : RowsOk p n room := fun r hr => h.1 r hr
/-- what is left of a row is nothing if the room holds it -/
theorem left_zero {p : Int} (hF : Fld p) {n : Nat} {room : List (List Int)} (h : PFR p n room) {r : List Int} (hr : RowsOk p n [r]) (hl : (leftR p room r).length = n) : (∀ y ∈ leftR p room r, y = 0) ↔ InR p room r := by
  rw [zero_iff hl, ← hasR_in hF h.rows hr, ← left_iff hF h hr]
  exact ⟨fun e => decide_eq_true e, fun e => of_decide_eq_true e⟩
/-- a room of k plain rows holds p to the k rows -/
theorem room_many {q n : Nat} (hF : Fld (q : Int)) {room : List (List Int)} (h : PFR q n room) (f : List Int → Bool) (hf : ∀ g, RowsOk q n [g] → (f g = true ↔ InR q room g)) : ((allR q n).filter f).length = q ^ room.length := by
  have h2 := hF.1
  have pw : ((q ^ room.length : Nat) : Int) = (q : Int) ^ room.length := Int.natCast_pow ..
  have pm : ((List.range (q ^ room.length)).map fun (N : Nat) => rowN q n room N).Perm ((allR q n).filter f) := by
    refine (List.perm_ext_iff_of_nodup ?_ ((allR_nodup q n).filter _)).mpr fun g => ?_
    · refine List.pairwise_map.mpr (List.Pairwise.imp_of_mem (fun {a b} ha hb hab e => hab ?_) (List.nodup_range))
      have ha := List.mem_range.mp ha
      have hb := List.mem_range.mp hb
      have := rowN_inj hF h (N := a) (M := b) (by omega) (by omega) (by omega) (by omega) e
      omega
    · rw [List.mem_filter]
      constructor
      · intro hg
        obtain ⟨N, hN, rfl⟩ := List.mem_map.mp hg
        have okv := rowN_ok hF h (N : Int)
        have ok' := okv _ List.mem_cons_self
        exact ⟨allR_all ok'.1 ok'.2, (hf _ okv).mpr (rowN_in h _)⟩
      · rintro ⟨hg, ha⟩
        have okg : RowsOk q n [g] := rowsOk_one (allR_ok hg)
        obtain ⟨N, n0, n1, e⟩ := rowN_all hF h okg ((hf g okg).mp ha)
        refine List.mem_map.mpr ⟨N.toNat, List.mem_range.mpr ?_, ?_⟩
        · have : ((N.toNat : Nat) : Int) < ((q ^ room.length : Nat) : Int) := by
            rw [Int.natCast_pow]
            omega
          omega
        · rw [show ((N.toNat : Nat) : Int) = N by omega, e]
  rw [← pm.length_eq, List.length_map, List.length_range]
/-- how many worlds are alike to the world of noughts -/
theorem alike_many {q n : Nat} (hF : Fld (q : Int)) {room : List (List Int)} (h : PFR q n room) : ((allR q n).filter fun w => room.all fun r => decide (worthR q r w = 0)).length = q ^ (acrossR q n room).length := by
  refine room_many hF (PFR.across hF n room) _ fun g okg => ?_
  rw [across_iff hF h okg, List.all_eq_true]
  exact ⟨fun z r hr => of_decide_eq_true (z r hr), fun z r hr => decide_eq_true (z r hr)⟩
/-- two rooms are of one size if as many worlds are alike in both -/
theorem alike_size {q n : Nat} (hF : Fld (q : Int)) {one other : List (List Int)} (h : PFR q n one) (g : PFR q n other) : ((allR q n).filter fun w => one.all fun r => decide (worthR q r w = 0)).length = ((allR q n).filter fun w => other.all fun r => decide (worthR q r w = 0)).length ↔ one.length = other.length := by
  have h2 := hF.1
  rw [alike_many hF h, alike_many hF g, Nat.pow_right_inj (by omega)]
  have a := PFR.across_size hF h
  have b := PFR.across_size hF g
  omega
end OC

set_option Elab.async false
set_option linter.all false
set_option maxRecDepth 100000
set_option maxHeartbeats 4000000
namespace OC
open PySem PySem.Spec PyProof.Rows L2
theorem args_sum2 (a b : Value) : argsOk "sum" ⟨[a, b], []⟩ := by unfold argsOk; kernel_rfl
theorem sub_list_bytearray' : isSubtype (.type "list") (.type "bytearray") = pure false := by rw [isSubtype_type]; kernel_rfl
/-- what lists from the i-th on hold, one behind another -/
def flatF (Fv : Nat → List Value) (i : Nat) : Nat → List Value
  | 0 => []
  | k + 1 => Fv i ++ flatF Fv (i + 1) k
section
variable {prog : Program} {w : World} {A : Around} {R : Result → Shared → Prop} {I ax : Addr} {items : Array Value}
theorem sum_loopL (hh : A.in1.handled = none) (hne : ax ≠ I) (S : Addr) (hSI : S ≠ I) (hSa : S ≠ ax) (Fv : Nat → List Value) :
    ∀ (k i : Nat) (s : Shared) (a : Addr) (its : List Value) (m c : Nat), items.size - i = k → i ≤ items.size → s.heap.IsListIter I ax i → s.heap.IsList ax items →
    s.heap.get? S = some { cls := .type "list", dict := none, data := .seq #[.ref a] c, slots := #[] } → IsL s.heap a its.toArray m → a ≠ I → a ≠ S →
    (∀ j v, items[j]? = some v → ∃ l q, v = .ref l ∧ l ≠ I ∧ l ≠ S ∧ IsL s.heap l (Fv j).toArray q) → (its ++ flatF Fv i k).length ≤ sizeLine →
    (∀ h' tk a' m', (∀ b o, b ≠ I → b ≠ S → s.heap.get? b = some o → h'.get? b = some o) → IsL h' a' (its ++ flatF Fv i k).toArray m' → (a' = a ∧ k = 0) ∨ S < a' → R (.ok (.ret (.ref a'))) { s with heap := h', toks := tk }) →
    codeAny (model prog w) A (.builtin "sum.loop" ⟨[.ref I, .ref S, rawInt 2, rawInt 0], []⟩) R s := by
  have W := Walks.list (prog := prog) (w := w) (A := A.in1) hh I ax hne items
  intro k
  induction k with
  | zero =>
    intro i s a its m c hk hi hit hax hS ha haI haS hls hz hR
    have hin : i = items.size := by omega
    subst hin
    refine codeAny_builtin F.entry_sum_loop ?_
    rw [Around.under_plainId F.plain_sum_loop _]
    show wpAny _ A.in1 (seqItems? (.ref S) >>= _) _ _ s
    refine wpAny_bind (wpAny_seqItems hS rfl ?_)
    show wpAny _ A.in1 (tryCatch (pyNext (.ref I)) _ >>= _) _ _ s
    refine wpAny_bind (wpAny_tryCatch (W.done s _ _ ⟨hit, hax⟩ fun h' tk hk' => ?_))
    have hk2 : ∀ b o, b ≠ I → s.heap.get? b = some o → h'.get? b = some o := fun b o hb e => hk' b o (fun hm => hb (List.mem_singleton.mp hm)) e
    refine wpAny_pure (hR h' tk a m (fun b o hbI _ e => hk2 b o hbI e) ?_ (.inl ⟨rfl, rfl⟩))
    rw [show its ++ flatF Fv items.size 0 = its from List.append_nil its]
    exact hk2 _ _ haI ha
  | succ k ih =>
    intro i s a its m c hk hi hit hax hS ha haI haS hls hz hR
    have hlt : i < items.size := by omega
    refine codeAny_builtin F.entry_sum_loop ?_
    rw [Around.under_plainId F.plain_sum_loop _]
    show wpAny _ A.in1 (seqItems? (.ref S) >>= _) _ _ s
    refine wpAny_bind (wpAny_seqItems hS rfl ?_)
    show wpAny _ A.in1 (tryCatch (pyNext (.ref I)) _ >>= _) _ _ s
    refine wpAny_bind (wpAny_tryCatch (W.item i s _ _ hlt ⟨hit, hax⟩ fun v h' tk hP hst' hk' => ?_))
    have hk2 : ∀ b o, b ≠ I → s.heap.get? b = some o → h'.get? b = some o := fun b o hb e => hk' b o (fun hm => hb (List.mem_singleton.mp hm)) e
    obtain ⟨l, q, rfl, hlI, hlS, hl⟩ := hls i v hP
    have hS' := hk2 S _ hSI hS
    have ha' := hk2 a _ haI ha
    have hl' := hk2 l _ hlI hl
    have hSlt : S < h'.objs.size := Heap.lt_size hS'
    obtain ⟨hit', hax'⟩ := hst'
    have hIlt : I < h'.objs.size := by obtain ⟨o, e, _⟩ := id hit'; exact Heap.lt_size e
    have hxlt : ax < h'.objs.size := by obtain ⟨o, e, _⟩ := id hax'; exact Heap.lt_size e
    have ez : its ++ flatF Fv i (k + 1) = (its ++ Fv i) ++ flatF Fv (i + 1) k := by
      rw [List.append_assoc]
      rfl
    have hz1 : its.length + (Fv i).length ≤ sizeLine := by
      rw [ez, List.length_append, List.length_append] at hz
      omega
    show wpAny _ A.in1 ((holding [Value.ref l] (binaryOp .Add (.ref a) (.ref l))).attempt >>= _) _ _ _
    refine wpAny_bind (wpAny_attempt (wpAny_holding (PySem.P.add_list ha' hl' ?_ (by rw [List.size_toArray, List.size_toArray]; exact hz1))))
    have eA : its.toArray ++ (Fv i).toArray = (its ++ Fv i).toArray := by simp
    rw [eA]
    have hS1 := Heap.get?_push_of_some (o := { cls := .type "list", data := .seq (its ++ Fv i).toArray }) hS'
    show wpAny _ A.in1 (updateSeq S (fun _ => #[.ref h'.objs.size]) >>= _) _ _ _
    refine wpAny_bind (wpAny_updateSeq hS1 rfl ?_)
    have hS₂ := Heap.get?_update_self (Obj.mapSeq fun _ => #[Value.ref h'.objs.size]) hS1 rfl
    refine wpAny_bind (wpAny_letGo ?_)
    have old : ∀ b o, b ≠ S → h'.get? b = some o → (((h'.push { cls := .type "list", data := .seq (its ++ Fv i).toArray }).update S (Obj.mapSeq fun _ => #[Value.ref h'.objs.size])).update S (Obj.mapSeq fun _ => #[Value.ref h'.objs.size])).get? b = some o := fun b o hb e =>
      (Heap.get?_update_other _ _ (Ne.symm hb)).trans ((Heap.get?_update_other _ _ (Ne.symm hb)).trans (Heap.get?_push_of_some _ e))
    have hnS : h'.objs.size ≠ S := fun e => Nat.lt_irrefl _ (e ▸ hSlt)
    refine wpAny_bind (wpAny_updateSeq hS₂ rfl (wpAny_pure ⟨plainId_quiet F.plain_sum_loop _, ih (i + 1) _ h'.objs.size (its ++ Fv i) 0 _ (by omega) hlt ?_ ?_ (Heap.get?_update_self _ hS₂ rfl) ?_ (fun e => Nat.lt_irrefl _ (e ▸ hIlt)) hnS ?_ (by rw [← ez]; exact hz) fun h'' tk'' a'' m'' hk'' hL'' hor => ?_⟩))
    · obtain ⟨o, e, r⟩ := hit'
      exact ⟨o, old _ _ (Ne.symm hSI) e, r⟩
    · obtain ⟨o, e, r⟩ := hax'
      exact ⟨o, old _ _ (Ne.symm hSa) e, r⟩
    · exact (Heap.get?_update_other _ _ (Ne.symm hnS)).trans ((Heap.get?_update_other _ _ (Ne.symm hnS)).trans (Heap.get?_push_size _ rfl))
    · intro j v hj
      obtain ⟨l2, q2, e2, h1, h2, h3⟩ := hls j v hj
      exact ⟨l2, q2, e2, h1, h2, old _ _ h2 (hk2 _ _ h1 h3)⟩
    · rw [ez] at hR
      refine hR h'' tk'' a'' m'' (fun b o hbI hbS e => hk'' b o hbI hbS (old _ _ hbS (hk2 _ _ hbI e))) hL'' (.inr ?_)
      rcases hor with ⟨e, _⟩ | h
      · rw [e]; exact hSlt
      · exact h
end
section
variable {prog : Program} {w : World} {A : Around} {E : Value → Shared → Prop} {s : Shared}
theorem sum_lists {x b : Addr} {its : Array Value} {q : Nat} {st : List Value} {Fv : Nat → List Value} {Q : Value → Shared → Prop} (hh : A.handled = none) (hx : s.heap.IsList x its) (hb : IsL s.heap b st.toArray q) (hn : 0 < its.size)
    (hls : ∀ j v, its[j]? = some v → ∃ l q, v = .ref l ∧ IsL s.heap l (Fv j).toArray q) (hz : (st ++ flatF Fv 0 its.size).length ≤ sizeLine)
    (h : ∀ h' tk a m, (∀ c o, s.heap.get? c = some o → h'.get? c = some o) → IsL h' a (st ++ flatF Fv 0 its.size).toArray m → s.heap.objs.size ≤ a → Q (.ref a) { s with heap := h', toks := tk }) :
    wpAny (model prog w) A (call (.builtin "sum") [.ref x, .ref b]) Q E s := by
  have hxl : x < s.heap.objs.size := by obtain ⟨_, e, _⟩ := hx; exact Heap.lt_size e
  have hbl : b < s.heap.objs.size := Heap.lt_size hb
  refine call_function_tree F.kind_sum F.plain_sum F.entry_sum (args_sum2 _ _) ?_
  unfold Builtin.«sum»
  simp only [List.length_cons, List.length_nil]
  rw [if_neg (by decide)]
  refine wpAny_bind (wpAny_of_eq (show Builtin.Builtins.bindParams "sum" ["start"] 0 ⟨[Value.ref b], []⟩ = pure [some (.ref b)] from rfl) ?_)
  refine wpAny_bind (wpAny_pyIter_list hx ?_)
  refine wpAny_bind (wpAny_pure ?_)
  have hb1 : IsL (s.heap.push { cls := .type "list_iterator", data := .fields #[.ref x, .int 0 0] }) b st.toArray q := Heap.get?_push_of_some _ hb
  have tl : Shared.TypeIs { s with heap := s.heap.push { cls := .type "list_iterator", data := .fields #[.ref x, .int 0 0] } } (.ref b) "list" := ⟨_, hb1, rfl⟩
  simp only [List.forIn_cons, List.forIn_nil]
  refine wpAny_bind (wpAny_bind (wpAny_bind (wpAny_isInstance (T := "list") (b := false) tl F.sub_list_str ?_)))
  simp only [Bool.false_eq_true, if_false]
  refine wpAny_pure (wpAny_bind (wpAny_bind (wpAny_isInstance (T := "list") (b := false) tl F.sub_list_bytes ?_)))
  simp only [Bool.false_eq_true, if_false]
  refine wpAny_pure (wpAny_bind (wpAny_bind (wpAny_isInstance (T := "list") (b := false) tl sub_list_bytearray' ?_)))
  simp only [Bool.false_eq_true, if_false]
  refine wpAny_pure (wpAny_pure ?_)
  refine wpAny_bind (wpAny_newObj_type ?_)
  have sz : (s.heap.push { cls := .type "list_iterator", data := .fields #[.ref x, .int 0 0] }).objs.size = s.heap.objs.size + 1 := Heap.size_push ..
  have n1 : (s.heap.push { cls := .type "list_iterator", data := .fields #[.ref x, .int 0 0] }).objs.size ≠ s.heap.objs.size := by rw [sz]; exact Nat.succ_ne_self _
  have n2 : (s.heap.push { cls := .type "list_iterator", data := .fields #[.ref x, .int 0 0] }).objs.size ≠ x := by rw [sz]; exact Nat.ne_of_gt (Nat.lt_succ_of_lt hxl)
  have old : ∀ (o2 : Obj) c o, s.heap.get? c = some o → ((s.heap.push { cls := .type "list_iterator", data := .fields #[.ref x, .int 0 0] }).push o2).get? c = some o := fun o2 c o e => Heap.get?_push_of_some _ (Heap.get?_push_of_some _ e)
  refine wpAny_pure ⟨plainId_quiet F.plain_sum_loop _, sum_loopL (items := its) hh (Nat.ne_of_lt hxl) _ n1 n2 Fv its.size 0 _ b st q _ rfl (Nat.zero_le _) ⟨_, Heap.get?_push_of_some _ (Heap.get?_push_size _ rfl), rfl, rfl⟩ ?_ (Heap.get?_push_size _ rfl) (old _ _ _ hb) (Nat.ne_of_lt hbl) (by rw [sz]; exact Nat.ne_of_lt (Nat.lt_succ_of_lt hbl)) ?_ hz fun h' tk a m hk hL hor => ?_⟩
  · obtain ⟨o, e, r⟩ := hx
    exact ⟨o, old _ _ _ e, r⟩
  · intro j v hj
    obtain ⟨l, q2, e, hl⟩ := hls j v hj
    have := Heap.lt_size hl
    exact ⟨l, q2, e, Nat.ne_of_lt this, by rw [sz]; exact Nat.ne_of_lt (Nat.lt_succ_of_lt this), old _ _ _ hl⟩
  · refine h h' tk a m (fun c o e => hk c o (Nat.ne_of_lt (Heap.lt_size e)) (by have := Heap.lt_size e; rw [sz]; exact Nat.ne_of_lt (Nat.lt_succ_of_lt this)) (old _ _ _ e)) hL ?_
    rcases hor with ⟨_, e⟩ | h
    · omega
    · rw [sz] at h
      exact Nat.le_of_lt (Nat.lt_of_succ_lt h)
end
theorem flatF_eq : ∀ (k i : Nat) (Fv : Nat → List Value) (L : List (List Value)), L.length = k → (∀ j, j < k → L[j]? = some (Fv (i + j))) → flatF Fv i k = L.flatten
  | 0, i, Fv, L, e, h => by
    rw [List.length_eq_zero_iff.mp e]
    rfl
  | k + 1, i, Fv, [], e, h => by cases e
  | k + 1, i, Fv, x :: L, e, h => by
    have e0 := h 0 (by omega)
    have e0 : x = Fv i := by simpa using e0
    rw [List.flatten_cons, e0]
    show Fv i ++ flatF Fv (i + 1) k = _
    rw [flatF_eq k (i + 1) Fv L (by simpa using e) fun j hj => ?_]
    have := h (j + 1) (by omega)
    rw [List.getElem?_cons_succ] at this
    rw [this]
    congr 2
    omega
theorem pickM {R : Addr → List Value → Prop} : ∀ (ls : List Addr) (L : List (List V)), ls.length = L.length → (∀ (j : Nat) (l : Addr) (xs : List V), ls[j]? = some l → L[j]? = some xs → ∃ its, Vals xs its ∧ R l its) →
    ∃ M : List (List Value), M.length = ls.length ∧ Vals L.flatten M.flatten ∧ ∀ (j : Nat) (l : Addr), ls[j]? = some l → ∃ its, M[j]? = some its ∧ R l its
  | [], [], _, _ => ⟨[], rfl, .nil, fun j l e => by simp at e⟩
  | [], _ :: _, e, _ => by cases e
  | _ :: _, [], e, _ => by cases e
  | l :: ls, xs :: L, e, h => by
    obtain ⟨its, v, r⟩ := h 0 l xs rfl rfl
    obtain ⟨M, lM, vM, gM⟩ := pickM ls L (Nat.succ.inj e) fun j l xs h1 h2 => h (j + 1) l xs h1 h2
    refine ⟨its :: M, by rw [List.length_cons, List.length_cons, lM], ?_, fun j l' e' => ?_⟩
    · rw [List.flatten_cons, List.flatten_cons]
      exact v.append vM
    · cases j with
      | zero =>
        have e' : l = l' := Option.some.inj e'
        subst e'
        exact ⟨its, rfl, r⟩
      | succ j => exact gM j l' e'
/-- sum of a list of lists, from a list on -/
def rSumL : List V → Hp → VK → Prop := fun vs H Q => ∃ (a b : Addr) (ls : List Addr) (st : List V) (L : List (List V)), vs = [V.ref a, V.ref b] ∧ H a = some (.lst (ls.map V.ref)) ∧ H b = some (.lst st) ∧ 0 < ls.length ∧ ls.length = L.length ∧ (∀ (j : Nat) (l : Addr) (xs : List V), ls[j]? = some l → L[j]? = some xs → H l = some (.lst xs)) ∧ (st ++ L.flatten).length ≤ sizeLine ∧
  ∀ p, H p = none → Q (.ref p) (upd H p (.lst (st ++ L.flatten)))
theorem cr_sumL {X : Cx} (hc : X.calm = true) : CallR X (.builtin "sum") rSumL := by
  intro pins s σ H vs us Q I r h
  obtain ⟨a, b, ls, st, L, rfl, ha, hb, hn, hl, hL, hz, q⟩ := h
  obtain ⟨za, ia, na, ra, la, ea⟩ := I.lstM ha
  obtain ⟨zb, ib, nb, rb, lb, eb⟩ := I.lstM hb
  obtain ⟨u1, u2, rfl, r1, r2⟩ := Vals.two r
  cases r1
  cases r2
  obtain ⟨M, lM, vM, gM⟩ := pickM (R := fun l its => ∃ q, IsL s.heap l its.toArray q) ls L hl fun j l xs e1 e2 => by
    obtain ⟨z, its, n, rv, _, e⟩ := I.lstM (hL j l xs e1 e2)
    exact ⟨its, rv, n, e⟩
  have li : ia.length = ls.length := by rw [← la, List.length_map]
  have ez : flatF (fun j => (M[j]?).getD []) 0 ia.toArray.size = M.flatten := by
    refine flatF_eq _ _ _ _ (by rw [List.size_toArray]; omega) fun j hj => ?_
    rw [Nat.zero_add]
    have : j < M.length := by rw [List.size_toArray] at hj; omega
    rw [List.getElem?_eq_getElem this]
    rfl
  have lz : (ib ++ M.flatten).length = (st ++ L.flatten).length := (Vals.length (rb.append vM)).symm
  refine sum_lists (Fv := fun j => (M[j]?).getD []) (I.ok.hd hc) ⟨_, ea, rfl, _, rfl⟩ eb (by rw [List.size_toArray]; omega) (fun j v hj => ?_) (by rw [ez, lz]; exact hz) fun h' tk p m hk hp hle => ?_
  · have hj : ia[j]? = some v := by simpa using hj
    have hlt : j < ls.length := by
      have := (List.getElem?_eq_some_iff.mp hj).1
      omega
    have e1 : ls[j]? = some ls[j] := List.getElem?_eq_getElem hlt
    obtain ⟨u, hu, ru⟩ := Vals.get ra (i := j) (x := V.ref ls[j]) (by rw [List.getElem?_map, e1]; rfl)
    rw [hj] at hu
    cases hu
    cases ru
    obtain ⟨its, g1, q2, g2⟩ := gM j _ e1
    exact ⟨_, q2, rfl, by rw [g1]; exact g2⟩
  · rw [ez] at hp
    refine ⟨.ref p, upd H p (.lst (st ++ L.flatten)), I.laid hk hle ⟨hz, _, m, rb.append vM, hp⟩, rfl, q p (I.hok.fresh hle)⟩
end OC

set_option Elab.async false
set_option linter.all false
set_option maxRecDepth 100000
set_option maxHeartbeats 4000000
namespace OC
open PySem PySem.Spec PyProof.Rows L2
/-- the signs of a text, each a text -/
def signsS (x : Str) : List Str := x.cps.toList.map fun c => ⟨#[c]⟩
/-- list(x) of a text -/
def rListX : List V → Hp → VK → Prop := fun vs H Q => ∃ x : Str, vs = [V.str x] ∧ x.length ≤ 1000 ∧ ∀ p, H p = none → Q (.ref p) (upd H p (.lst ((signsS x).map V.str)))
theorem cr_listX {X : Cx} (hc : X.calm = true) : CallR X (.type "list") rListX := by
  intro pins s σ H vs us Q I r h
  obtain ⟨x, rfl, hx, q⟩ := h
  obtain ⟨u, rfl, t, rfl⟩ := vals1 r
  have hx' : x.cps.size ≤ 1000 := hx
  refine call_list_str (I.ok.hd hc) x t (fun h' tk acc c hk e it => ?_) (by rw [sizeLine_eq]; omega)
  obtain ⟨sz, at_⟩ := it
  have rv : Vals ((signsS x).map V.str) acc.toList := by
    have key : ∀ (l : List Nat) (vs : List Value), l.length = vs.length → (∀ (j : Nat) (v : Value), vs[j]? = some v → ∃ c u, l[j]? = some c ∧ v = .str ⟨#[c]⟩ u) → Vals ((l.map fun c => (⟨#[c]⟩ : Str)).map V.str) vs := by
      intro l
      induction l with
      | nil =>
        intro vs hl _
        cases vs with
        | nil => exact .nil
        | cons _ _ => cases hl
      | cons c l ih =>
        intro vs hl hv
        cases vs with
        | nil => cases hl
        | cons v vs =>
          obtain ⟨c', u, e1, e2⟩ := hv 0 v rfl
          have e1 : c = c' := Option.some.inj e1
          subst e1
          exact .cons ⟨u, e2⟩ (ih vs (Nat.succ.inj hl) fun j v h => hv (j + 1) v h)
    refine key x.cps.toList acc.toList (by rw [Array.length_toList, Array.length_toList]; exact sz.symm) fun j v hj => ?_
    obtain ⟨c', u, e1, e2⟩ := at_ j v (by rw [← Array.getElem?_toList]; exact hj)
    exact ⟨c', u, by rw [Array.getElem?_toList]; exact e1, e2⟩
  refine ⟨.ref _, upd H s.heap.objs.size (.lst ((signsS x).map V.str)), I.laid hk (Nat.le_refl _) ⟨?_, acc.toList, c, rv, e⟩, rfl, q _ I.fresh⟩
  rw [rv.length, Array.length_toList, sz, sizeLine_eq]
  omega
end OC

set_option Elab.async false
set_option linter.all false
set_option maxRecDepth 100000
set_option maxHeartbeats 4000000
/-! rows taken off step by step: pairs of a place and a row with 1 there, at whose place those behind it have 0 -/
namespace Lin
section
variable {p : Nat} [NeZero p]
def offV : List (Nat × Vec p) → Vec p → Vec p
  | [], x => x
  | b :: st, x => offV st (fun i => x i - x b.1 * b.2 i)
def StV : List (Nat × Vec p) → Prop
  | [] => True
  | b :: st => b.2 b.1 = 1 ∧ (∀ t ∈ st, t.2 b.1 = 0) ∧ StV st
theorem offV_keep {j : Nat} : ∀ (st : List (Nat × Vec p)) (x : Vec p), (∀ t ∈ st, t.2 j = 0) → offV st x j = x j
  | [], _, _ => rfl
  | b :: st, x, h => by
    show offV st _ j = x j
    rw [offV_keep st _ fun t ht => h t (List.mem_cons_of_mem _ ht)]
    show x j - x b.1 * b.2 j = x j
    rw [h b List.mem_cons_self]
    grind
theorem offV_zero : ∀ (st : List (Nat × Vec p)) (x : Vec p), StV st → ∀ b ∈ st, offV st x b.1 = 0
  | [], _, _, b, hb => (nomatch hb)
  | c :: st, x, h, b, hb => by
    obtain ⟨h1, h2, h3⟩ := h
    show offV st _ b.1 = 0
    rcases List.mem_cons.mp hb with rfl | hb
    · rw [offV_keep st _ h2]
      show x b.1 - x b.1 * b.2 b.1 = 0
      rw [h1]
      grind
    · exact offV_zero st _ h3 b hb
theorem offV_in {S : Vec p → Prop} (hS : Sub S) : ∀ (st : List (Nat × Vec p)) (x : Vec p), (∀ t ∈ st, S t.2) → (S (offV st x) ↔ S x)
  | [], _, _ => Iff.rfl
  | b :: st, x, h => by
    show S (offV st _) ↔ S x
    rw [offV_in hS st _ fun t ht => h t (List.mem_cons_of_mem _ ht)]
    have hb := h b List.mem_cons_self
    refine ⟨fun hx => ?_, fun hx => hS.less _ hx hb⟩
    have := hS.less (-(x b.1)) hx hb
    have e : (fun i => (x i - x b.1 * b.2 i) - -(x b.1) * b.2 i) = x := by
      funext i
      grind
    rw [e] at this
    exact this
theorem sub_at (j : Nat) : Sub (fun x : Vec p => x j = 0) where
  zero := rfl
  add := fun {x y} hx hy => by
    show x j + y j = 0
    rw [hx, hy]
    grind
  mul := fun c {x} hx => by
    show c * x j = 0
    rw [hx]
    grind
theorem st_nil : ∀ (st : List (Nat × Vec p)) (x : Vec p), StV st → Spn (st.map (·.2)) x → (∀ b ∈ st, x b.1 = 0) → x = zeroV
  | [], x, _, ⟨fs, e⟩, _ => by
    rw [e]
    exact lin_nil' fs
  | b :: st, x, h, ⟨[], e⟩, hz => by
    rw [e]
    exact lin_nil _
  | b :: st, x, h, ⟨f :: fs, e⟩, hz => by
    obtain ⟨h1, h2, h3⟩ := h
    have e : x = addV (mulV f b.2) (lin fs (st.map (·.2))) := e
    have z : lin fs (st.map (·.2)) b.1 = 0 := spn_le (sub_at b.1) (fun v hv => by
      obtain ⟨t, mt, rfl⟩ := List.mem_map.mp hv
      exact h2 t mt) ⟨fs, rfl⟩
    have hb : x b.1 = 0 := hz b List.mem_cons_self
    have f0 : f = 0 := by
      rw [e] at hb
      have hb : f * b.2 b.1 + lin fs (st.map (·.2)) b.1 = 0 := hb
      rw [h1, z] at hb
      grind
    have ex : x = lin fs (st.map (·.2)) := by
      rw [e, f0]
      funext i
      show 0 * b.2 i + lin fs (st.map (·.2)) i = lin fs (st.map (·.2)) i
      grind
    exact st_nil st x h3 ⟨fs, ex⟩ fun t ht => hz t (List.mem_cons_of_mem _ ht)
theorem st_has {st : List (Nat × Vec p)} (h : StV st) (x : Vec p) : offV st x = zeroV ↔ Spn (st.map (·.2)) x := by
  have key := offV_in (spn_sub (st.map (·.2))) st x fun t ht => spn_mem (List.mem_map_of_mem ht)
  constructor
  · intro z
    refine key.mp ?_
    rw [z]
    exact (spn_sub _).zero
  · intro hx
    exact st_nil st _ h (key.mpr hx) (offV_zero st x h)
theorem st_app : ∀ {st : List (Nat × Vec p)} {b : Nat × Vec p}, StV st → (∀ t ∈ st, b.2 t.1 = 0) → b.2 b.1 = 1 → StV (st ++ [b])
  | [], b, _, _, h1 => ⟨h1, fun t ht => (nomatch ht), trivial⟩
  | c :: st, b, h, h0, h1 => by
    obtain ⟨a1, a2, a3⟩ := h
    refine ⟨a1, fun t ht => ?_, st_app a3 (fun t ht => h0 t (List.mem_cons_of_mem _ ht)) h1⟩
    rcases List.mem_append.mp ht with ht | ht
    · exact a2 t ht
    · rw [List.mem_singleton.mp ht]
      exact h0 c List.mem_cons_self
end
end Lin
namespace OC
open PySem PySem.Spec PyProof.Rows L2 Lin
/-- what is left of a row, steps taken off -/
def offR (p : Int) : List (Nat × List Int) → List Int → List Int
  | [], r => r
  | b :: st, r => offR p st (plusR p r b.2 (p - r.getD b.1 0))
theorem offR_ok {p : Int} (hp : 0 < p) {n : Nat} : ∀ (st : List (Nat × List Int)) (r : List Int), (∀ b ∈ st, b.2.length = n) → RowsOk p n [r] → RowsOk p n [offR p st r]
  | [], _, _, h => h
  | b :: st, r, hs, h => by
    show RowsOk p n [offR p st _]
    exact offR_ok hp st _ (fun t ht => hs t (List.mem_cons_of_mem _ ht)) (rowsOk_one (plus_row hp (h r List.mem_cons_self).1 (hs b List.mem_cons_self) _))
def vecS {q : Nat} [NeZero q] (b : Nat × List Int) : Nat × Vec q := (b.1, toV (q := q) b.2)
theorem toV_off {q : Nat} [NeZero q] {n : Nat} : ∀ (st : List (Nat × List Int)) (r : List Int), (∀ b ∈ st, b.2.length = n) → r.length = n → toV (q := q) (offR q st r) = offV (st.map (vecS (q := q))) (toV r)
  | [], _, _, _ => rfl
  | b :: st, r, hs, hr => by
    have hb := hs b List.mem_cons_self
    have l1 : (plusR q r b.2 (q - r.getD b.1 0)).length = n := by rw [plus_len (by rw [hr, hb]), hr]
    show toV (offR q st _) = offV (st.map vecS) _
    rw [toV_off st _ (fun t ht => hs t (List.mem_cons_of_mem _ ht)) l1, toV_plus (by rw [hr, hb])]
    congr 1
    funext i
    show toV r i + cF ((q : Int) - r.getD b.1 0) * toV b.2 i = toV r i - toV r b.1 * toV b.2 i
    have e0 : cF (q := q) (q : Int) = 0 := by
      have := cF_mod (q := q) (q : Int)
      rw [Int.emod_self] at this
      rw [← this, cF_zero]
    rw [cF_sub, e0]
    show toV r i + (0 - toV r b.1) * toV b.2 i = _
    grind
/-- steps that make what rows make -/
structure StepsOk (p : Int) (n : Nat) (rows : List (List Int)) (st : List (Nat × List Int)) : Prop where
  lt : ∀ b ∈ st, b.1 < n
  ok : ∀ b ∈ st, RowsOk p n [b.2]
  vec : ∀ (q : Nat) (_ : NeZero q), p = (q : Int) → StV (st.map (vecS (q := q))) ∧ ∀ y, Spn ((st.map (vecS (q := q))).map (·.2)) y ↔ Mk q rows y
theorem StepsOk.nil (p : Int) (n : Nat) : StepsOk p n [] [] := ⟨fun b hb => (nomatch hb), fun b hb => (nomatch hb), fun q z e => ⟨trivial, fun y => Iff.rfl⟩⟩
theorem StepsOk.len {p : Int} {n : Nat} {rows : List (List Int)} {st : List (Nat × List Int)} (S : StepsOk p n rows st) : ∀ b ∈ st, b.2.length = n := fun b hb => (S.ok b hb b.2 List.mem_cons_self).1
theorem StepsOk.has {p : Int} (hF : Fld p) {n : Nat} {rows : List (List Int)} {st : List (Nat × List Int)} (S : StepsOk p n rows st) {r : List Int} (hr : RowsOk p n [r]) : (∀ x ∈ offR p st r, x = 0) ↔ InR p rows r := by
  obtain ⟨q, rfl, z, hF⟩ := to_q hF
  obtain ⟨v1, v2⟩ := S.vec q z rfl
  have okr := hr r List.mem_cons_self
  have ok2 := offR_ok (p := (q : Int)) q_pos st r S.len hr _ List.mem_cons_self
  have et := toV_off (q := q) st r S.len okr.1
  have e1 : (∀ x ∈ offR q st r, x = 0) ↔ toV (q := q) (offR q st r) = zeroV := by
    constructor
    · intro h
      rw [show offR q st r = List.replicate n 0 from List.eq_replicate_iff.mpr ⟨ok2.1, h⟩]
      exact toV_noughts n
    · intro h
      have : offR q st r = List.replicate n 0 := toV_inj (q := q) (by rw [ok2.1, List.length_replicate]) ok2.2 (fun v hv => by rw [List.eq_of_mem_replicate hv]; exact ⟨Int.le_refl _, q_pos⟩) (by rw [h]; exact (toV_noughts n).symm)
      intro x hx
      rw [this] at hx
      exact List.eq_of_mem_replicate hx
  rw [e1, et, st_has v1, v2]
  exact ⟨fun h q' z' e => by
    have : q = q' := by omega
    subst this
    exact h, fun h => h q z rfl⟩
/-- a row that is made already -/
theorem StepsOk.same {p : Int} (hF : Fld p) {n : Nat} {rows : List (List Int)} {st : List (Nat × List Int)} (S : StepsOk p n rows st) {r : List Int} (hr : RowsOk p n [r]) (h0 : ∀ x ∈ offR p st r, x = 0) : StepsOk p n (rows ++ [r]) st := by
  have hi := (S.has hF hr).mp h0
  refine ⟨S.lt, S.ok, fun q z e => ?_⟩
  obtain ⟨v1, v2⟩ := S.vec q z e
  refine ⟨v1, fun y => ?_⟩
  rw [v2]
  unfold Mk
  rw [List.map_append]
  refine ⟨fun h => spn_left h, fun h => spn_sub_of (fun v hv => ?_) h⟩
  rcases List.mem_append.mp hv with hv | hv
  · exact spn_mem hv
  · have hv : v = toV r := by simpa using hv
    rw [hv]
    exact hi q z e
def stepOf (p : Int) (r : List Int) : Nat × List Int := (fpR r, ownR p r (fpR r))
/-- a row more -/
theorem StepsOk.more {p : Int} (hF : Fld p) {n : Nat} {rows : List (List Int)} {st : List (Nat × List Int)} (S : StepsOk p n rows st) {r : List Int} (hr : RowsOk p n [r]) (hlt : fpR (offR p st r) < n) : StepsOk p n (rows ++ [r]) (st ++ [stepOf p (offR p st r)]) := by
  have hp : 0 < p := by have := hF.1; omega
  have okr := hr r List.mem_cons_self
  have ok2 := offR_ok hp st r S.len hr _ List.mem_cons_self
  have own := own_row hp ok2.1 (fpR (offR p st r))
  refine ⟨fun b hb => ?_, fun b hb => ?_, fun q z e => ?_⟩
  · rcases List.mem_append.mp hb with hb | hb
    · exact S.lt b hb
    · rw [List.mem_singleton.mp hb]
      exact hlt
  · rcases List.mem_append.mp hb with hb | hb
    · exact S.ok b hb
    · rw [List.mem_singleton.mp hb]
      exact rowsOk_one own
  · subst e
    obtain ⟨v1, v2⟩ := S.vec q z rfl
    have et := toV_off (q := q) st r S.len okr.1
    have ne : toV (q := q) (offR q st r) (fpR (offR q st r)) ≠ 0 := (toV_ne ok2.2 _).mpr (fpR_at (by rw [ok2.1]; exact hlt))
    have eo := toV_own (q := q) ok2.2 (fpR (offR q st r))
    rw [et] at ne eo
    have inv := invF_ok hF _ ne
    generalize hx : offV (st.map (vecS (q := q))) (toV r) = x at ne eo inv et
    have eo' : toV (q := q) (ownR q (offR q st r) (fpR (offR q st r))) = mulV (invF (x (fpR (offR q st r)))) x := eo
    rw [List.map_append]
    refine ⟨st_app v1 (fun t ht => ?_) ?_, fun y => ?_⟩
    · show toV (ownR q (offR q st r) (fpR (offR q st r))) t.1 = 0
      rw [eo']
      show _ * x t.1 = 0
      rw [← hx, offV_zero _ _ v1 t ht]
      grind
    · show toV (ownR q (offR q st r) (fpR (offR q st r))) (fpR (offR q st r)) = 1
      rw [eo']
      exact inv
    · unfold Mk
      rw [List.map_append, List.map_append]
      have okx : ∀ {S : Vec q → Prop}, Sub S → (∀ t ∈ st.map (vecS (q := q)), S t.2) → (S x ↔ S (toV r)) := fun hS h => by
        rw [← hx]
        exact offV_in hS _ _ h
      constructor
      · intro h
        refine spn_sub_of (fun v hv => ?_) h
        rcases List.mem_append.mp hv with hv | hv
        · exact spn_left ((v2 v).mp (spn_mem hv))
        · have hv : v = toV (ownR q (offR q st r) (fpR (offR q st r))) := by simpa [vecS, stepOf] using hv
          rw [hv, eo']
          refine (spn_sub _).mul _ ((okx (spn_sub _) fun t ht => spn_left ((v2 t.2).mp (spn_mem (List.mem_map_of_mem ht)))).mpr (spn_right (spn_mem (by simp))))
      · intro h
        refine spn_sub_of (fun v hv => ?_) h
        rcases List.mem_append.mp hv with hv | hv
        · exact spn_left ((v2 v).mpr (spn_mem hv))
        · have hv : v = toV r := by simpa using hv
          rw [hv]
          refine (okx (spn_sub _) fun t ht => spn_left (spn_mem (List.mem_map_of_mem ht))).mp ?_
          have hb : Spn ((st.map (vecS (q := q))).map (·.2) ++ [toV (ownR q (offR q st r) (fpR (offR q st r)))]) (mulV (invF (x (fpR (offR q st r)))) x) := by
            rw [← eo']
            exact spn_right (spn_mem (by simp))
          have := (spn_sub _).mul (x (fpR (offR q st r))) hb
          have e : mulV (x (fpR (offR q st r))) (mulV (invF (x (fpR (offR q st r)))) x) = x := by
            funext i
            show x (fpR (offR q st r)) * (invF (x (fpR (offR q st r))) * x i) = x i
            grind
          rw [e] at this
          exact this
end OC

set_option Elab.async false
set_option linter.all false
set_option maxRecDepth 100000
set_option maxHeartbeats 4000000
namespace OC
open PySem PySem.Spec PyProof.Rows L2
/-- a comprehension of drawn rows -/
theorem lc_rows5 {K : PySem.W.Frag} {d c e : Addr} {t p : Int} {n m : Nat} {σ : L2.St} {H : Hp} {Qd : Addr → Hp → Prop} {i : Nat} {sl : List Nat} {te : TE} (D0 : Drw H d c e t) (hm : m ≤ 100) (hw : ∀ x : Option V, wipe ((wipe σ sl).set i x) sl = wipe σ sl)
    (hte : ∀ (x : V) (k : Nat) (t' : Int) (H' : Hp) (Q' : VK), Drw H' d c e t' → t' ≤ t + 20 * k → k < m → (∀ H'' t'' a r, Kept d e H' H'' → Drw H'' d c e t'' → t'' ≤ t' + 20 → H'' a = some (.tup (r.map V.int)) → RowsOk p n [r] → Q' (.ref a) H'') → te ((wipe σ sl).set i (some x)) H' Q')
    (hd : ∀ (D : Addr) (H' : Hp) (t' : Int) (ws : List V) (rs : List (List Int)), Kept d e H H' → Drw H' d c e t' → t' ≤ t + 20 * m → H D = none → H' D = some (.lst ws) → DpAll K H' ws (rs.map rowD) → rs.length = m → RowsOk p n rs → Qd D H') :
    LcGoal (Itr 0 m) (gName i) tYes te sl σ H Qd := by
  intro D nD
  have bD := D0.fresh nD
  refine lc_range (lo := 0) (n := m) (fun k H' => Kept d e H H' ∧ ∃ (t' : Int) (ws : List V) (rs : List (List Int)), Drw H' d c e t' ∧ t' ≤ t + 20 * k ∧ H' D = some (.lst ws) ∧ DpAll K H' ws (rs.map rowD) ∧ rs.length = k ∧ RowsOk p n rs) ⟨Kept.of (same_upd nD), t, [], [], D0.same (same_upd nD), by omega, upd_same, .nil, rfl, fun x hx => (nomatch hx)⟩ (fun k H' hk hW => ?_) (fun H' hW => ?_)
  · obtain ⟨k', t', ws, rs, D', ht', eB, dp, ln, ro⟩ := hW
    refine ⟨hw _, hte _ k t' H' _ D' ht' hk fun H1 t1 a r k1 D1 ht1 ea okr => ?_⟩
    have eB1 := Drw.lst (c := c) k1 bD eB
    have na : D ≠ a := fun z => by subst z; rw [eB1] at ea; cases ea
    have lw := dpAll_len dp
    rw [List.length_map] at lw
    have tk : Tk H1 (upd H1 D (.lst (ws ++ [.ref a]))) := (Tk.refl _).mut eB1
    refine ⟨ws, eB1, small1000 (by omega), (k'.trans k1).mut nD, t1, ws ++ [.ref a], rs ++ [r], D1.mut bD, by omega, upd_same, ?_, by rw [List.length_append, ln]; rfl, fun y hy => ?_⟩
    · rw [List.map_append]
      refine dpAll_append (dpAll_tk tk _ _ (noL_rows rs) (dpAll_tk (D'.tk k1) _ _ (noL_rows rs) dp)) (.cons (.tup (.inl (.inl ?_)) (dpAll_ints r)) .nil)
      rw [upd_ne (Ne.symm na)]
      exact ea
    · rcases List.mem_append.mp hy with h | h
      · exact ro y h
      · rw [List.mem_singleton.mp h]
        exact okr r List.mem_cons_self
  · obtain ⟨k', t', ws, rs, D', ht', eB, dp, ln, ro⟩ := hW
    exact hd D H' t' ws rs k' D' ht' nD eB dp ln ro
/-- some rows of a list, drawn -/
theorem lc_pick5 {K : PySem.W.Frag} {d c e a : Addr} {t p : Int} {n : Nat} {vs : List V} {rs : List (List Int)} {σ : L2.St} {H : Hp} {Qd : Addr → Hp → Prop} {i : Nat} {sl : List Nat} {tt : TT} (D0 : Drw H d c e t) (hA : H a = some (.lst vs)) (bA : ¬ Bd3 d c e a) (hD : DpAll K H vs (rs.map rowD)) (ok : RowsOk p n rs) (hm : rs.length ≤ 100) (hw : ∀ x : Option V, wipe ((wipe σ sl).set i x) sl = wipe σ sl) (hi : i < (wipe σ sl).length)
    (htt : ∀ (v : V) (t' : Int) (H' : Hp) (Q' : Bool → Hp → Prop), Drw H' d c e t' → t' ≤ t + 100 → (∀ H'' (b : Bool), Kept d e H' H'' → Drw H'' d c e (t' + 1) → Q' b H'') → tt ((wipe σ sl).set i (some v)) H' Q')
    (hd : ∀ (D : Addr) (H' : Hp) (t' : Int) (ws : List V) (gs : List (List Int)), Kept d e H H' → Drw H' d c e t' → t' ≤ t + rs.length → H D = none → H' D = some (.lst ws) → DpAll K H' ws (gs.map rowD) → gs.length ≤ rs.length → RowsOk p n gs → Qd D H') :
    LcGoal (Itl K a) (gName i) tt (tVar i) sl σ H Qd := by
  intro D nD
  have bD := D0.fresh nD
  have lv := dpAll_len hD
  rw [List.length_map] at lv
  refine lc_it (walk_list (K := K) (a := a) (xs := vs)) (fun k H' => Kept d e H H' ∧ ∃ (t' : Int) (ws : List V) (gs : List (List Int)), Drw H' d c e t' ∧ t' ≤ t + k ∧ H' D = some (.lst ws) ∧ DpAll K H' ws (gs.map rowD) ∧ gs.length ≤ k ∧ RowsOk p n gs) ⟨Kept.of (same_upd nD), t, [], [], D0.same (same_upd nD), by omega, upd_same, .nil, Nat.le_refl _, fun x hx => (nomatch hx)⟩ (fun k H' _ hP => .inl (.inl (Drw.lst (c := c) hP.1 bA hA))) (fun k x H1 H2 hk hP hY => ?_) (fun H' hP => ?_)
  · obtain ⟨rfl, e1⟩ := hY
    obtain ⟨k', t', ws, gs, D', ht', eB, dp, ln, ro⟩ := hP
    obtain ⟨b, r, rfl, gr, mr, hb⟩ := dpAll_row hD e1
    refine ⟨hw _, htt _ t' _ _ D' (by omega) fun H3 q k3 D3 => ?_⟩
    have eB3 := Drw.lst (c := c) k3 bD eB
    have dp3 := dpAll_tk (D'.tk k3) _ _ (noL_rows gs) dp
    cases q
    · exact iteF ⟨k'.trans k3, t' + 1, ws, gs, D3, by omega, eB3, dp3, by omega, ro⟩
    · have lw := dpAll_len dp
      rw [List.length_map] at lw
      have tk : Tk H3 (upd H3 D (.lst (ws ++ [.ref b]))) := (Tk.refl _).mut eB3
      refine iteT ⟨.ref b, by rw [List.getElem?_set_self hi], ws, eB3, small1000 (by omega), (k'.trans k3).mut nD, t' + 1, ws ++ [.ref b], gs ++ [r], D3.mut bD, by omega, upd_same, ?_, by rw [List.length_append]; simp only [List.length_cons, List.length_nil]; omega, fun y hy => ?_⟩
      · rw [List.map_append]
        exact dpAll_append (dpAll_tk tk _ _ (noL_rows gs) dp3) (.cons (dp_tk ((D0.tk (k'.trans k3)).trans tk) (rowD r) _ (noL_row r) (.tup hb (dpAll_ints r))) .nil)
      · rcases List.mem_append.mp hy with h | h
        · exact ro y h
        · rw [List.mem_singleton.mp h]
          exact ok r mr
  · obtain ⟨k', t', ws, gs, D', ht', eB, dp, ln, ro⟩ := hP
    exact hd D H' t' ws gs k' D' (by omega) nD eB dp (by omega) ro
def roomD (room : List (List Int)) : PyData := .tuple (room.map rowD)
theorem noL_rooms : ∀ rms : List (List (List Int)), noLAll (rms.map roomD) = true
  | [] => rfl
  | r :: rms => by
    rw [List.map_cons]
    simp only [noLAll, roomD, noL, noL_rows, Bool.true_and]
    exact noL_rooms rms
theorem dpAll_room {K : PySem.W.Frag} {H : Hp} {vs : List V} {rms : List (List (List Int))} {i : Nat} {v : V} (h : DpAll K H vs (rms.map roomD)) (e : vs[i]? = some v) : ∃ a r, v = .ref a ∧ rms[i]? = some r ∧ r ∈ rms ∧ RowsAt K H a r := by
  obtain ⟨d, g, _, dp⟩ := dpAll_get h e
  rw [List.getElem?_map] at g
  obtain ⟨x, hx, rfl⟩ := Option.map_eq_some_iff.mp g
  unfold roomD at dp
  cases dp with
  | tup h1 h2 => exact ⟨_, x, rfl, hx, List.mem_of_getElem? hx, _, h1, h2⟩
/-- the rooms of those hands whose names are asked for -/
def roomsR (ns : List Str) (hs : List (Str × List (List Int))) : List (List (List Int)) := (hs.filter fun h => decide (h.1 ∈ ns)).map Prod.snd
theorem rooms_take {ns : List Str} {hs : List (Str × List (List Int))} {i : Nat} {x : Str × List (List Int)} (h : hs[i]? = some x) : roomsR ns (hs.take (i + 1)) = roomsR ns (hs.take i) ++ (if x.1 ∈ ns then [x.2] else []) := by
  unfold roomsR
  rw [List.take_add_one, h, List.filter_append, List.map_append]
  congr 1
  by_cases hx : x.1 ∈ ns
  · rw [if_pos hx, show (some x).toList = [x] from rfl, List.filter_cons_of_pos (p := fun (h : Str × List (List Int)) => decide (h.1 ∈ ns)) (decide_eq_true hx)]
    rfl
  · rw [if_neg hx, show (some x).toList = [x] from rfl, List.filter_cons_of_neg (p := fun (h : Str × List (List Int)) => decide (h.1 ∈ ns)) (fun z => hx (of_decide_eq_true z))]
    rfl
/-- a drawn stand -/
structure Stand5 (p : Int) (n : Nat) (kn : List (List Int)) (hs : List (Str × List (List Int))) : Prop where
  fld : Fld p
  p1 : p ≤ 1000
  n1 : 1 ≤ n
  n8 : n ≤ 8
  pk : PFR p n kn
  ph : ∀ h ∈ hs, PFR p n h.2
  inn : ∀ h ∈ hs, ∀ r ∈ kn, InR p h.2 r
  few : 2 ≤ hs.length
  many : hs.length ≤ 9
  srt : sortedS (hs.map Prod.fst) = true
  nd : (hs.map Prod.fst).Nodup
  nm : ∀ x ∈ hs.map Prod.fst, NameOk x
def strOf : PyData → Str
  | .str x => x
  | _ => ""
theorem rep_strs {K : PySem.W.Frag} {H : Hp} {bad : Addr → Prop} : ∀ ns : List Str, RepAll K H bad (ns.map V.str) (ns.map PyData.str)
  | [] => .nil
  | x :: ns => .cons (.str x) (rep_strs ns)
theorem all_strs (q : Str → Bool) (ns : List Str) : ((ns.map PyData.str).all fun d => q (strOf d)) = ns.all q := by
  rw [List.all_map]
  rfl
theorem filter_sub {l s : List Str} (h : s.Sublist l) : l.Nodup → l.filter (fun x => decide (x ∈ s)) = s := by
  induction h with
  | slnil => intro _; rfl
  | cons a h ih =>
    rename_i s' l'
    intro nd
    obtain ⟨n1, n2⟩ := List.nodup_cons.mp nd
    rw [List.filter_cons_of_neg (p := fun x => decide (x ∈ s')) (fun z => n1 (h.subset (of_decide_eq_true z)))]
    exact ih n2
  | cons_cons a h ih =>
    rename_i s' l'
    intro nd
    obtain ⟨n1, n2⟩ := List.nodup_cons.mp nd
    rw [List.filter_cons_of_pos (p := fun x => decide (x ∈ a :: s')) (decide_eq_true List.mem_cons_self)]
    congr 1
    have e : l'.filter (fun x => decide (x ∈ a :: s')) = l'.filter (fun x => decide (x ∈ s')) := List.filter_congr fun x hx => by
      refine decide_eq_decide.mpr ⟨fun z => ?_, fun z => List.mem_cons_of_mem _ z⟩
      rcases List.mem_cons.mp z with rfl | z
      · exact absurd hx n1
      · exact z
    rw [e]
    exact ih n2
theorem rooms_len {ns : List Str} {hs : List (Str × List (List Int))} (sub : ns.Sublist (hs.map Prod.fst)) (nd : (hs.map Prod.fst).Nodup) : (roomsR ns hs).length = ns.length := by
  have e := congrArg List.length (filter_sub sub nd)
  rw [List.filter_map, List.length_map] at e
  unfold roomsR
  rw [List.length_map]
  exact e
theorem sel_rooms {ns : List Str} : ∀ hs : List (Str × List (List Int)), selR ns hs = (roomsR ns hs).flatten
  | [] => rfl
  | h :: hs => by
    have e : selR ns (h :: hs) = (if h.1 ∈ ns then h.2 else []) ++ selR ns hs := rfl
    rw [e, sel_rooms hs]
    unfold roomsR
    by_cases hn : h.1 ∈ ns
    · rw [if_pos hn, List.filter_cons_of_pos (p := fun (h : Str × List (List Int)) => decide (h.1 ∈ ns)) (decide_eq_true hn), List.map_cons, List.flatten_cons]
    · rw [if_neg hn, List.filter_cons_of_neg (p := fun (h : Str × List (List Int)) => decide (h.1 ∈ ns)) (fun z => hn (of_decide_eq_true z))]
      rfl
end OC

set_option Elab.async false
set_option linter.all false
set_option maxRecDepth 100000
set_option maxHeartbeats 4000000
/-! what repr asks, with bounds; comprehensions of things with old lists in them -/
namespace OC
open PySem PySem.Spec PyProof.Rows L2
structure FitZ (B k : Nat) (d : PyData) : Prop where
  len : d.shown.length ≤ B
  sh : d.showable = true
  dp : d.depth ≤ k
theorem FitZ.mono {B B' k k' : Nat} {d : PyData} (h : FitZ B k d) (hB : B ≤ B') (hk : k ≤ k') : FitZ B' k' d := ⟨Nat.le_trans h.len hB, h.sh, Nat.le_trans h.dp hk⟩
theorem FitZ.fit {B k : Nat} {d : PyData} (h : FitZ B k d) (hB : B ≤ 10000000) (hk : k ≤ 55) : FitS d := ⟨Nat.le_trans h.len hB, h.sh, Nat.le_trans h.dp hk⟩
theorem FitB.z {B k : Nat} {d : PyData} (h : FitB B k d) : FitZ B k d := ⟨h.len, h.sh, h.dp⟩
theorem fitz_int {i : Int} (h0 : -1000000 ≤ i) (h1 : i ≤ 1000000) : FitZ 50 0 (.int i) := (fit_int (Nat.lt_of_le_of_lt (show i.natAbs ≤ 1000000 by omega) (by decide))).z
theorem fitz_tuple {B k n : Nat} {ds : List PyData} (hl : ds.length ≤ n) (h : ∀ d ∈ ds, FitZ B k d) : FitZ (n * (B + 2) + 3) (k + 1) (.tuple ds) := by
  refine ⟨?_, ?_, ?_⟩
  · simp only [PyData.shown]
    refine Nat.le_trans (tupleText_len_le _) ?_
    rw [shownAll_map, List.length_map]
    have h1 := sum_le (B := B) (ts := ds.map PyData.shown) fun t ht => by
      obtain ⟨d, m, rfl⟩ := List.mem_map.mp ht
      exact (h d m).len
    rw [List.length_map] at h1
    have h2 : ds.length * (B + 2) ≤ n * (B + 2) := Nat.mul_le_mul_right _ hl
    rw [Nat.mul_add] at h2
    omega
  · simp only [PyData.showable]
    exact showAll_of fun d m => (h d m).sh
  · simp only [PyData.depth]
    have := depthAll_of fun d m => (h d m).dp
    omega
theorem fitz_list {B k n : Nat} {ds : List PyData} (hl : ds.length ≤ n) (h : ∀ d ∈ ds, FitZ B k d) : FitZ (n * (B + 2) + 3) (k + 1) (.list ds) := by
  refine ⟨?_, ?_, ?_⟩
  · simp only [PyData.shown]
    refine Nat.le_trans (listText_len_le _) ?_
    rw [shownAll_map, List.length_map]
    have h1 := sum_le (B := B) (ts := ds.map PyData.shown) fun t ht => by
      obtain ⟨d, m, rfl⟩ := List.mem_map.mp ht
      exact (h d m).len
    rw [List.length_map] at h1
    have h2 : ds.length * (B + 2) ≤ n * (B + 2) := Nat.mul_le_mul_right _ hl
    rw [Nat.mul_add] at h2
    omega
  · simp only [PyData.showable]
    exact showAll_of fun d m => (h d m).sh
  · simp only [PyData.depth]
    have := depthAll_of fun d m => (h d m).dp
    omega
theorem fitz_name {x : Str} (h : NameOk x) : FitZ 82 0 (.str x) := by
  refine ⟨?_, by simp [PyData.showable], by simp [PyData.depth]⟩
  simp only [PyData.shown]
  have := PySem.StrLaws.reprText_len x fun c hc => Nat.lt_of_le_of_lt (h.2.2 c hc).2 (by decide)
  have := h.2.1
  omega
/-- a thing within a thing -/
structure OkE (d : PyData) : Prop where
  l : lenOk d
  f : FitZ 600 2 d
/-- a thing that is asked about -/
structure OkZ (d : PyData) : Prop where
  l : lenOk2 d
  m : match d with | .tuple ds => ds.length ≤ 50 | _ => True
  f : FitZ 30103 3 d
theorem okE_ints {r : List Int} (h : ∀ x ∈ r, -1000000 ≤ x ∧ x ≤ 1000000) (hl : r.length ≤ 10) : OkE (rowD r) :=
  ⟨by show (r.map PyData.int).length ≤ 1000; rw [List.length_map]; omega, (fitz_tuple (n := 10) (by rw [List.length_map]; exact hl) fun d m => by
    obtain ⟨x, mx, rfl⟩ := List.mem_map.mp m
    exact fitz_int (h x mx).1 (h x mx).2).mono (by decide) (by decide)⟩
theorem okE_list {r : List Int} (h : ∀ x ∈ r, -1000000 ≤ x ∧ x ≤ 1000000) (hl : r.length ≤ 10) : OkE (.list (r.map PyData.int)) :=
  ⟨True.intro, (fitz_list (n := 10) (by rw [List.length_map]; exact hl) fun d m => by
    obtain ⟨x, mx, rfl⟩ := List.mem_map.mp m
    exact fitz_int (h x mx).1 (h x mx).2).mono (by decide) (by decide)⟩
theorem fitz_bool (b : Bool) : FitZ 50 0 (.bool b) := by cases b <;> exact ⟨by decide +kernel, by decide +kernel, by decide +kernel⟩
theorem fitz_none : FitZ 50 0 .none := ⟨by decide +kernel, by decide +kernel, by decide +kernel⟩
theorem okE_mixed {b : Bool} {r : List Int} (h : ∀ x ∈ r, -1000000 ≤ x ∧ x ≤ 1000000) (hl : r.length ≤ 9) : OkE (.tuple (.bool b :: r.map PyData.int)) :=
  ⟨by show (PyData.bool b :: r.map PyData.int).length ≤ 1000; rw [List.length_cons, List.length_map]; omega, (fitz_tuple (n := 10) (by rw [List.length_cons, List.length_map]; omega) fun d m => by
    rcases List.mem_cons.mp m with rfl | m
    · exact fitz_bool b
    · obtain ⟨x, mx, rfl⟩ := List.mem_map.mp m
      exact fitz_int (h x mx).1 (h x mx).2).mono (by decide) (by decide)⟩
theorem okE_none : OkE .none := ⟨True.intro, fitz_none.mono (by decide) (by decide)⟩
theorem okZ_tuple {ds : List PyData} (hl : ds.length ≤ 50) (h : ∀ d ∈ ds, OkE d) : OkZ (.tuple ds) :=
  ⟨⟨by omega, fun x hx => (h x hx).l⟩, hl, fitz_tuple (n := 50) hl fun d m => (h d m).f⟩
theorem okZ_list {ds : List PyData} (hl : ds.length ≤ 50) (h : ∀ d ∈ ds, OkE d) : OkZ (.list ds) :=
  ⟨True.intro, True.intro, fitz_list (n := 50) hl fun d m => (h d m).f⟩
theorem okE_row {p : Int} {n : Nat} {r : List Int} (hp : p ≤ 1000) (hn : n ≤ 8) (h : RowsOk p n [r]) : OkE (rowD r) := by
  obtain ⟨h1, h2⟩ := h r List.mem_cons_self
  exact okE_ints (fun x hx => by have := h2 x hx; omega) (by omega)
theorem okE_rows {p : Int} {n : Nat} {rs : List (List Int)} (hp : p ≤ 1000) (hn : n ≤ 8) (h : RowsOk p n rs) : ∀ d ∈ rs.map rowD, OkE d := fun d m => by
  obtain ⟨r, mr, rfl⟩ := List.mem_map.mp m
  exact okE_row hp hn (rowsOk_one (h r mr))
theorem fitz_rows {p : Int} {n : Nat} {rs : List (List Int)} (hp : p ≤ 1000) (hn : n ≤ 8) (h : RowsOk p n rs) (hl : rs.length ≤ 8) : FitZ 4819 3 (.tuple (rs.map rowD)) := fitz_tuple (n := 8) (by rw [List.length_map]; exact hl) fun d m => (okE_rows hp hn h d m).f
theorem fitz_stand {p : Int} {n : Nat} {kn : List (List Int)} {hs : List (Str × List (List Int))} (S : Stand5 p n kn hs) : FitZ 400000 6 (standD p n kn hs) := by
  have n8 := S.n8
  have p1 := S.p1
  have p2 := S.fld.1
  have lk := PFR.len S.fld S.pk
  have hands : FitZ 99990 5 (.tuple (hs.map handD)) := by
    refine (fitz_tuple (B := 9645) (k := 4) (n := 9) (by rw [List.length_map]; exact S.many) fun d m => ?_).mono (by decide) (by decide)
    obtain ⟨h, mh, rfl⟩ := List.mem_map.mp m
    unfold handD
    refine (fitz_tuple (B := 4819) (k := 3) (n := 2) (Nat.le_refl _) fun d m => ?_).mono (by decide) (by decide)
    have lh := PFR.len S.fld (S.ph h mh)
    simp only [List.mem_cons, List.not_mem_nil, or_false] at m
    rcases m with rfl | rfl
    · exact (fitz_name (S.nm _ (List.mem_map_of_mem mh))).mono (by decide) (by decide)
    · exact fitz_rows p1 n8 (S.ph h mh).1 (by omega)
  unfold standD
  refine (fitz_tuple (B := 99990) (k := 5) (n := 4) (Nat.le_refl _) fun d m => ?_).mono (by decide) (by decide)
  simp only [List.mem_cons, List.not_mem_nil, or_false] at m
  rcases m with rfl | rfl | rfl | rfl
  · exact (fitz_int (by omega) (by omega)).mono (by decide) (by decide)
  · exact (fitz_int (by omega) (by omega)).mono (by decide) (by decide)
  · exact (fitz_rows p1 n8 S.pk.1 (by omega)).mono (by decide) (by decide)
  · exact hands
theorem fitz_names {ns : List Str} (h : ∀ x ∈ ns, NameOk x) (hl : ns.length ≤ 9) : FitZ 1000 1 (.tuple (ns.map PyData.str)) :=
  (fitz_tuple (n := 9) (by rw [List.length_map]; exact hl) fun d m => by
    obtain ⟨x, mx, rfl⟩ := List.mem_map.mp m
    exact fitz_name (h x mx)).mono (by decide) (by decide)
/-- a drawing keeps things whose lists are none of the three -/
theorem Stays.drw {bad : Addr → Prop} {d c e : Addr} {t : Int} {H H' : Hp} (D : Drw H d c e t) (k : Kept d e H H') (bd : bad d) (be : bad e) : Stays bad H H' := by
  obtain ⟨cells, rests, h1, h2, _⟩ := D.hc
  refine ⟨D.tk k, fun a xs h => k a _ h (fun z => ?_) (fun z => ?_), fun a xs h nb => k a _ h (fun z => nb (by rw [z]; exact bd)) (fun z => nb (by rw [z]; exact be))⟩
  · subst z; rw [D.hd] at h; cases h
  · subst z; rw [h2] at h; cases h
theorem Drw.some {d c e : Addr} {t : Int} {H : Hp} (D : Drw H d c e t) {a : Addr} (b : Bd3 d c e a) : H a ≠ none := by
  obtain ⟨cells, rests, h1, h2, _⟩ := D.hc
  rcases b with z | z | z
  · subst z; rw [D.hd]; exact fun z => nomatch z
  · subst z; rw [h1]; exact fun z => nomatch z
  · subst z; rw [h2]; exact fun z => nomatch z
theorem rep_new3 {K : PySem.W.Frag} {H H' : Hp} {d c e : Addr} {t : Int} {v : V} {x : PyData} (D : Drw H d c e t) (r : Rep K H' (fun a => H a ≠ none) v x) : Rep K H' (Bd3 d c e) v x := rep_weak (fun _ hb => D.some hb) _ _ r
theorem Drw.more {d c e : Addr} {t : Int} {H H' : Hp} (D : Drw H d c e t) (D' : ∃ t', Drw H' d c e t') (k : Kept d e H H') {a : Addr} (h : H a ≠ none) : H' a ≠ none := by
  obtain ⟨t', D'⟩ := D'
  rcases hq : H a with _ | o
  · exact absurd hq h
  · by_cases z1 : a = d
    · exact D'.some (.inl z1)
    · by_cases z2 : a = e
      · exact D'.some (.inr (.inr z2))
      · rw [k a o hq z1 z2]; exact fun z => nomatch z
/-- [f(x) for x in xs], where old lists may stand in the new things -/
theorem lc_mapS {K : PySem.W.Frag} {J : It} {G : Hp → Prop} {vs : List V} {ds : List PyData} {σ : L2.St} {H : Hp} {Qd : Addr → Hp → Prop} {i : Nat} {sl : List Nat} {te : TE} {bad : Addr → Prop} (F : PyData → PyData)
    (w : Walk J vs.length G (YAt vs)) (hG : ∀ H', Same H H' → G H') (hD : RepAll K H bad vs ds) (hz : vs.length ≤ 1000) (hw : ∀ x : Option V, wipe ((wipe σ sl).set i x) sl = wipe σ sl)
    (hte : ∀ (v : V) (d : PyData) (H' : Hp) (Q' : VK) (bad' : Addr → Prop), d ∈ ds → Rep K H' bad' v d → Same H H' → (∀ v' H'', Same H' H'' → Rep K H'' bad' v' (F d) → Q' v' H'') → te ((wipe σ sl).set i (some v)) H' Q')
    (hd : ∀ D H' ws, Same H H' → H D = none → H' D = some (.lst ws) → RepAll K H' bad ws (ds.map F) → Qd D H') :
    LcGoal J (gName i) tYes te sl σ H Qd := by
  intro D nD
  have lv := repAll_len hD
  have hD' := repAll_fresh nD _ _ hD
  refine lc_it w (fun k H' => Same H H' ∧ ∃ ws, H' D = some (.lst ws) ∧ ws.length = k ∧ RepAll K H' (fun a => bad a ∨ a = D) ws ((ds.take k).map F)) ⟨same_mut (Same.refl H) nD, [], upd_same, rfl, .nil⟩ (fun k H' _ hP => hG H' hP.1) (fun k x H1 H2 hk hP hY => ?_) (fun H' hP => ?_)
  · obtain ⟨rfl, e1⟩ := hY
    obtain ⟨sm, ws, eD, lw, rw_⟩ := hP
    obtain ⟨d, g, md, rx⟩ := repAll_get hD' e1
    refine ⟨hw _, hte x d _ _ (fun a => bad a ∨ a = D) md (rep_stays (Stays.of sm) _ _ rx) sm fun v' H'' s2 rv => ?_⟩
    have eD2 := s2 _ _ eD
    refine ⟨ws, eD2, small1000 (by omega), same_mut (sm.trans s2) nD, ws ++ [v'], upd_same, by rw [List.length_append, lw]; rfl, ?_⟩
    rw [List.take_add_one, g, List.map_append]
    exact repAll_append (repAll_stays (upd_stays (Stays.of s2) eD2 (.inr rfl)) _ _ rw_) (.cons (rep_stays (upd_stays (Stays.of (Same.refl H'')) eD2 (.inr rfl)) _ _ rv) .nil)
  · obtain ⟨sm, ws, eD, lw, rw_⟩ := hP
    rw [List.take_of_length_le (by omega)] at rw_
    exact hd D H' ws sm nD eD (repAll_weak (fun a h => .inl h) _ _ rw_)
mutual
/-- data without lists, as a thing -/
theorem rep_noL {K : PySem.W.Frag} {H : Hp} {bad : Addr → Prop} : ∀ (d : PyData) (v : V), noL d = true → Dp K H v d → Rep K H bad v d
  | .none, _, _, h => by cases h; exact .non
  | .bool b, _, _, h => by cases h; exact .bl b
  | .int i, _, _, h => by cases h; exact .int i
  | .str x, _, _, h => by cases h; exact .str x
  | .list ds, _, n, _ => by simp [noL] at n
  | .dict ds, _, _, h => by cases h
  | .tuple ds, _, n, h => by
    cases h with
    | tup h1 h2 => exact .tup h1 (repAll_noL ds _ (by simpa [noL] using n) h2)
theorem repAll_noL {K : PySem.W.Frag} {H : Hp} {bad : Addr → Prop} : ∀ (ds : List PyData) (vs : List V), noLAll ds = true → DpAll K H vs ds → RepAll K H bad vs ds
  | [], _, _, h => by cases h; exact .nil
  | d :: ds, _, n, h => by
    have n' : noL d = true ∧ noLAll ds = true := by simpa [noLAll] using n
    cases h with
    | cons h1 h2 => exact .cons (rep_noL d _ n'.1 h1) (repAll_noL ds _ n'.2 h2)
end
end OC

set_option Elab.async false
set_option linter.all false
set_option maxRecDepth 100000
set_option maxHeartbeats 2000000
/-! errors of classes of one's own, made without an argument; defs that may raise, by name -/
namespace OC
open PySem PySem.Spec PyProof.Rows L2
section
variable {X : Cx} {C : Addr} {bmB : List Value} {B newId initId : String}
theorem pmk_own0 {x : Str} {p pos : Pos} (F : ExcBaseFacts B newId initId bmB) (q : PySem.W.excIn X.K C bmB newId = true) (gC : X.mg x = some (.ref C)) (kC : PySem.W.keepIn X.K (.ref C) = true) (r : Raises X (.ref C)) (hg : Gl X x)
    (hdb : (x == ("__debug__" : Str)) = false := by decide) : PMk X (.Call (.Name x p) [] [] pos) (fun _ H Q => Q (.ref C) none H) := by
  intro pins s σ H Q I h
  refine wpAny_Call_Name_kw (ld_glob I hg gC ?_ hdb)
  obtain ⟨bm, N, nm, qn, bs, hdct, sn, sub, ab, col, dd, k0, k1, k2, k3, k5, mN, hC, hN, hni, T⟩ := exc_obj I.kIn q
  exact PySem.W.callWith_K0 I.kIn kC (wpAny_call_exc_subT F T hC hN hni (fun h' e hm => mk_of I hm r h (I.hok.gone hm.new)) (Nat.zero_le _))
end
/-- as Ok, for a def that may raise -/
structure OkX (P : Program) (w : World) (K : PySem.W.Frag) (mg : Str → Option Value) (base : Heap) (k : Nat) (x : Str) (ps : List Str) (sp : Sp) : Prop where
  ex : ∃ (f : Addr) (fd : FuncData), FnOk P w K mg base (L2.CX P w) k f fd ps sp ∧ mg x = some (.ref f) ∧ PySem.W.keepIn K (.ref f) = true ∧ Binds K fd ps []
section
variable {P : Program} {w : World} {K : PySem.W.Frag} {mg : Str → Option Value} {base : Heap}
theorem Df.okX {x : Str} {st : Stmt} {N ps : List Str} {k : Nat} {sp : Sp} (D : Df K mg x st ps) (S : FnScope N ps (defScope st)) (len : ∀ vs H Q E, sp vs H Q E → vs.length = ps.length)
    (hbody : ∀ (f : Addr) (cdv : Value) (A : Around) (outer : List Env) (s : Shared) (H : Hp) (vs : List V) (Q : VK) (E : XK), Room k (A.deeper (envOfC x (defScope st) s.heap.objs.size f cdv)) → sp vs H Q E →
      ∃ t, PSs (cxOf (L2.CX P w) P w K mg base N x (defScope st) f cdv A outer s H E) (defBody st) t ∧ t { nx := fun _ H' => Q .non H', rt := Q } (start N vs) H) : OkX P w K mg base (k + 1) x ps sp := by
  obtain ⟨f, fd, F, b, g⟩ := D.ex
  exact ⟨f, fd, F.okX S len (hbody f), g, F.kp, b⟩
theorem OkX.mono {x : Str} {ps : List Str} {j k : Nat} {sp : Sp} (O : OkX P w K mg base j x ps sp) (h : j ≤ k) : OkX P w K mg base k x ps sp := by
  obtain ⟨f, fd, F, r⟩ := O.ex
  exact ⟨f, fd, F.mono h, r⟩
end
section
variable {X : Cx} {x : Str} {ps : List Str} {k : Nat} {sp : Sp}
/-- a call where nothing may be raised: the promise is taken at the word that no error comes -/
theorem pe_callX0 {e : Expr} {es : List Expr} {t : TA} {p pos : Pos} (O : OkX X.prog X.w X.K X.mg X.base k x ps sp) (hr : Room k X.A) (hg : Gl X x) (ha : PA X (e :: es) t) (hdb : (x == ("__debug__" : Str)) = false := by decide)
    (he : starEach (e :: es) X.env = (false, eval e X.env) :: starEach es X.env := by rfl) (hpl : (backTo pos (starEach es X.env)).any (·.1) = false := by rfl) :
    PE X (.Call (.Name x p) (e :: es) [] pos) (tCall sp [] E0 t) := by
  obtain ⟨f, fd, F, g, kp, b⟩ := O.ex
  exact pe_call F hr hg g kp b .nil passL ha hdb he hpl
/-- a call in a try's body: W is what the clauses wish of an error -/
theorem pe_callX {W : WX} {e : Expr} {es : List Expr} {t : TA} {p pos : Pos} (O : OkX X.prog X.w X.K X.mg X.base k x ps sp) (tk : Takes X W) (hr : Room k X.A) (hg : Gl X x) (ha : PA X (e :: es) t) (hdb : (x == ("__debug__" : Str)) = false := by decide)
    (he : starEach (e :: es) X.env = (false, eval e X.env) :: starEach es X.env := by rfl) (hpl : (backTo pos (starEach es X.env)).any (·.1) = false := by rfl) :
    PE X (.Call (.Name x p) (e :: es) [] pos) (tCallS sp (WE W) t) := by
  obtain ⟨f, fd, F, g, kp, b⟩ := O.ex
  exact pe_callS F hr hg g kp b (fun σ => passAt tk σ) ha hdb he hpl
end
end OC

set_option Elab.async false
set_option linter.all false
set_option maxRecDepth 100000
set_option maxHeartbeats 2000000
/-! zip of a list and a tuple -/
namespace OC
open PySem PySem.Spec PyProof.Rows L2
/-- the list at a and the tuple at b as they stand at each turn, the items in new pairs -/
def ItzM (K : PySem.W.Frag) (a b : Addr) : It :=
  ⟨fun i H => ∃ (xs ys : List V) (x y : V), SqL K H a xs ∧ SqT K H b ys ∧ xs[i]? = some x ∧ ys[i]? = some y,
    fun i H v H' => ∃ T x y, v = .ref T ∧ H T = none ∧ H' = upd H T (.tup [x, y]) ∧ (∀ xs, SqL K H a xs → xs[i]? = some x) ∧ ∀ ys, SqT K H b ys → ys[i]? = some y,
    fun i H => ∃ xs ys : List V, SqL K H a xs ∧ SqT K H b ys ∧ i ≤ xs.length ∧ i ≤ ys.length ∧ (i = xs.length ∨ i = ys.length)⟩
theorem sep_of {z TI TO i1 i2 l1 l2 : Addr} (D : ZipApart z TI TO i1 i2 l1 l2) : ZipSep2 z TI TO i1 i2 [i1, l1] [i2, l2] where
  TIz := D.TIz
  TOz := D.TOz
  TITO := D.TITO
  TIi1 := D.TIi1
  mem1 := by simp
  zf1 := by simp; exact ⟨Ne.symm D.i1z, Ne.symm D.l1z⟩
  Tf1 := by simp; exact ⟨D.TOi1, Ne.symm D.l1TO⟩
  TIi2 := D.TIi2
  mem2 := by simp
  zf2 := by simp; exact ⟨Ne.symm D.i2z, Ne.symm D.l2z⟩
  Tf2 := by simp; exact ⟨D.TOi2, Ne.symm D.l2TO⟩
  sep1_2 := by simp; exact ⟨D.i12, Ne.symm D.l2i1⟩
  sep2_1 := by simp; exact ⟨Ne.symm D.i12, Ne.symm D.l1i2⟩
theorem turn_zipM {P : Program} {w : World} {K : PySem.W.Frag} {elts : List Expr} {kk : Nat} {tpos : Pos} {a b z TI TO i1 i2 : Addr} (D : ZipApart z TI TO i1 i2 a b) :
    Turn P w K (.Tuple elts kk tpos) (ItzM K a b) [z, TI, TO, i1, i2] z (fun i h => IsZip h z TI TO .none ∧ IsTupOf2 h TI (.ref i1) (.ref i2) ∧ (∃ x y, IsTupOf2 h TO x y) ∧ h.IsListIter i1 a i ∧ h.IsTupleIter i2 b i) where
  mem := by simp
  obj := fun i h st c hc => by
    obtain ⟨hz, hTI, ⟨x, y, hTO⟩, ⟨o1, e1, _, d1⟩, ⟨o2, e2, _, d2⟩⟩ := st
    have e' : c = z ∨ c = TI ∨ c = TO ∨ c = i1 ∨ c = i2 := by simpa using hc
    rcases e' with q | q | q | q | q
    · rw [q]; exact ⟨_, hz, fun v q => nomatch q⟩
    · rw [q]; exact ⟨_, hTI, fun v q => nomatch q⟩
    · rw [q]; exact ⟨_, hTO, fun v q => nomatch q⟩
    · rw [q]; exact ⟨o1, e1, fun v q => by rw [d1] at q; cases q⟩
    · rw [q]; exact ⟨o2, e2, fun v q => by rw [d2] at q; cases q⟩
  keep := fun i h h' st k => by
    obtain ⟨hz, hTI, ⟨x, y, hTO⟩, h1, h2⟩ := st
    exact ⟨k z (by simp) _ hz, k TI (by simp) _ hTI, ⟨x, y, k TO (by simp) _ hTO⟩, h1.at fun o q => k i1 (by simp) o q, h2.at fun o q => k i2 (by simp) o q⟩
  item := by
    intro X hP hw hK hc i pins s σ H E I hf st hg
    subst hP hw hK
    obtain ⟨hz, hTI, ⟨x0, y0, hTO⟩, h1, h2⟩ := st
    obtain ⟨xs, ys, x, y, hqx, hqy, hx, hy⟩ := hg
    obtain ⟨its, rv, p, _⟩ := I.list hqx
    obtain ⟨its2, rv2, p2, _⟩ := I.tuple hqy
    obtain ⟨u, hu, ru⟩ := rv.get hx
    obtain ⟨u2, hu2, ru2⟩ := rv2.get hy
    have hzl : z < s.heap.objs.size := Heap.lt_size hz
    have hh : X.A.in1.handled = none := I.ok.hd hc
    refine wpAny_pyNext_zipD2_item (sep_of D) (Draws.list hh i1 a D.l1i1 its.toArray) (Draws.tuple hh i2 b D.l2i2 its2.toArray) hz hTI hTO ⟨h1, p.isList⟩ ⟨h2, p2⟩ ?_ ?_ fun x1 x2 h' tk y1 y2 z' TO' st1' st2' hT hsz hk => ?_
    · have := (List.getElem?_eq_some_iff.mp hu).1
      simpa using this
    · have := (List.getElem?_eq_some_iff.mp hu2).1
      simpa using this
    have e1 : x1 = u := by
      have : its[i]? = some x1 := by simpa using y1
      rw [hu] at this
      exact (Option.some.inj this).symm
    have e2 : x2 = u2 := by
      have : its2[i]? = some x2 := by simpa using y2
      rw [hu2] at this
      exact (Option.some.inj this).symm
    subst e1 e2
    refine ⟨_, rfl, wpAny_letOwnedTupleGo_zip (s := { s with heap := h', toks := tk }) z' fun h'' z'' sb => ?_⟩
    have hT2 : h''.get? s.heap.objs.size = some { cls := .type "tuple", data := .seq #[x1, x2] } := (sb.2 _ (Nat.ne_of_gt hzl)).trans hT
    have new : ObjOk X.prog X.w (upd H s.heap.objs.size (.tup [x, y])) h'' s.heap.objs.size (.tup [x, y]) :=
      ⟨by show 2 ≤ sizeLine; decide, [x1, x2], .cons ru (.cons ru2 .nil), ⟨_, hT2, rfl, _, rfl⟩⟩
    have I1 : Inv X pins σ (upd H s.heap.objs.size (.tup [x, y])) { s with heap := h'', toks := tk } :=
      I.turnedNew (t' := tk) (ch := [z, TI, TO, i1, i2]) (fun c o hb q => (sb.2 c (fun q' => hb (by simp [q']))).trans (hk c o (fun q' => hb (by simp [q'])) (fun q' => hb (by simp [q'])) (fun q' => hb (by simp [q'])) (fun q' => hb (by simp [q'])) q)) hf (Nat.le_refl _) new
    refine ⟨.ref s.heap.objs.size, _, I1, rfl, ⟨_, x, y, rfl, I.hok.fresh (Nat.le_refl _), rfl, fun l hl => by rw [I.list_inj hl hqx]; exact hx, fun l hl => by rw [I.tuple_inj hl hqy]; exact hy⟩, ⟨z'', ?_, ⟨x1, x2, ?_⟩, ?_, ?_⟩, fun c hcm => ?_⟩
    · exact (sb.2 _ D.TIz).trans (hk _ _ D.TIz D.TITO D.TIi1 D.TIi2 hTI)
    · exact (sb.2 _ D.TOz).trans TO'
    · exact st1'.1.at fun o q => (sb.2 _ D.i1z).trans q
    · exact st2'.1.at fun o q => (sb.2 _ D.i2z).trans q
    · have hlt : c < s.heap.objs.size := by
        have e' : c = z ∨ c = TI ∨ c = TO ∨ c = i1 ∨ c = i2 := by simpa using hcm
        rcases e' with q | q | q | q | q
        · rw [q]; exact hzl
        · rw [q]; exact Heap.lt_size hTI
        · rw [q]; exact Heap.lt_size hTO
        · rw [q]; obtain ⟨_, e1, _⟩ := h1; exact Heap.lt_size e1
        · rw [q]; obtain ⟨_, e2, _⟩ := h2; exact Heap.lt_size e2
      rw [upd_ne (Nat.ne_of_lt hlt)]
      exact (hf c hcm).1
  done := by
    intro X hP hw hK hc i pins s σ H E I hf st hg
    subst hP hw hK
    obtain ⟨hz, hTI, ⟨x0, y0, hTO⟩, h1, h2⟩ := st
    obtain ⟨xs, ys, hqx, hqy, le1, le2, hend⟩ := hg
    obtain ⟨its, rv, p, _⟩ := I.list hqx
    obtain ⟨its2, rv2, p2, _⟩ := I.tuple hqy
    have l1 := rv.length
    have l2 := rv2.length
    have hh : X.A.in1.handled = none := I.ok.hd hc
    have sz1 : its.toArray.size = its.length := by simp
    have sz2 : its2.toArray.size = its2.length := by simp
    exact wpAny_pyNext_zipD2_end (sep_of D) (Draws.list hh i1 a D.l1i1 its.toArray) (Draws.tuple hh i2 b D.l2i2 its2.toArray) hz hTI hTO ⟨h1, p.isList⟩ ⟨h2, p2⟩ (by omega) (by omega) (by omega) fun h' tk hk => ⟨rfl, I.turnedL (t' := tk) (ch := [z, TI, TO, i1, i2]) (fun c o hb q =>
      hk c o (fun q' => hb (by simp [q'])) (fun q' => hb (by simp [q'])) (fun q' => hb (by simp [q'])) (fun q' => hb (by simp [q'])) q) hf⟩
  self := fun A i s Q E st h => wpAny_pyIter_zip st.1 h
/-- zip(xs, ys): two lists, two tuples, or a list and a tuple -/
def iZipM (K : PySem.W.Frag) (ta : TA) : TI := fun σ H R => ta σ H fun vs H1 => ∃ a b xs ys, vs = [.ref a, .ref b] ∧ SqL K H1 a xs ∧ SqT K H1 b ys ∧ R (ItzM K a b) H1
theorem pi_zipM {X : Cx} {e e2 : Expr} {ta : TA} {p pos tpos : Pos} {elts : List Expr} {kk : Nat} (hg : Gl X "zip") (hm : X.mg "zip" = none) (ha : PA X [e, e2] ta)
    (hs : starEach [e, e2] X.env = (false, eval e X.env) :: starEach [e2] X.env := by rfl) (hpl : (backTo pos (starEach [e2] X.env)).any (·.1) = false := by rfl) :
    PI X (.Tuple elts kk tpos) (.Call (.Name "zip" p) [e, e2] [] pos) (iZipM X.K ta) := by
  refine ⟨fun pins s σ H R I h => ?_⟩
  refine Call_ (ld_blt I hg hm PyProof.Rows.boot_zip (PyProof.Rows.callWith_type1 (thn (ha.run pos pins s σ H _ I h) fun us s1 ⟨vs, H1, I1, r1, q1⟩ => ?_) hs hpl))
  obtain ⟨a, b, xs, ys, ex, hqx, hqy, q⟩ := q1
  subst ex
  cases r1 with
  | cons r rr =>
    cases rr with
    | cons r' rr =>
      cases rr
      cases r
      cases r'
      have fresh5 : ∀ c, c ∈ [s1.heap.objs.size + 4, s1.heap.objs.size + 2, s1.heap.objs.size + 3, s1.heap.objs.size, s1.heap.objs.size + 1] → FpOk X pins H1 c := fun c hcm => by
        have hle : s1.heap.objs.size ≤ c := by
          have e' : c = s1.heap.objs.size + 4 ∨ c = s1.heap.objs.size + 2 ∨ c = s1.heap.objs.size + 3 ∨ c = s1.heap.objs.size ∨ c = s1.heap.objs.size + 1 := by simpa using hcm
          rcases e' with z | z | z | z | z
          · rw [z]; exact Nat.le_add_right _ _
          · rw [z]; exact Nat.le_add_right _ _
          · rw [z]; exact Nat.le_add_right _ _
          · rw [z]; exact Nat.le_refl _
          · rw [z]; exact Nat.le_add_right _ _
        exact I1.fpOk hle (I1.hok.fresh hle)
      obtain ⟨its, rv, p1, _⟩ := I1.list hqx
      obtain ⟨its2, rv2, p2, _⟩ := I1.tuple hqy
      obtain ⟨o2, ho2, _⟩ := id p2
      refine zip_begins2 (begins_list a its.toArray) (begins_tuple b its2.toArray) p1.isList (show s1.heap.IsTuple b its2.toArray from p2) fun h' hz hTI hTO h1 h2 hsz hk => wpAny_pyIter_zip hz ?_
      have I2 : Inv X pins σ H1 { s1 with heap := h' } := I1.kept (t' := s1.toks) hk
      exact ⟨s1.heap.objs.size + 4, [s1.heap.objs.size + 4, s1.heap.objs.size + 2, s1.heap.objs.size + 3, s1.heap.objs.size, s1.heap.objs.size + 1], _, _, H1, rfl, I2, turn_zipM (PySem.W.ktu_apart s1.heap.objs.size a b p1.lt (Heap.lt_size ho2)), ⟨hz, hTI, ⟨_, _, hTO⟩, ⟨_, h1, rfl, rfl⟩, ⟨_, h2, rfl, rfl⟩⟩, fresh5, q⟩
/-- zip(xs, ys): two tuples, or a list and a tuple -/
def iZipB (K : PySem.W.Frag) (ta : TA) : TI := fun σ H R => ta σ H fun vs H1 => ∃ a b xs ys, vs = [.ref a, .ref b] ∧ SqT K H1 b ys ∧ ((SqT K H1 a xs ∧ R (RZ.ItzT K a b) H1) ∨ (SqL K H1 a xs ∧ R (ItzM K a b) H1))
theorem pi_zipB {X : Cx} {e e2 : Expr} {ta : TA} {p pos tpos : Pos} {elts : List Expr} {kk : Nat} (hg : Gl X "zip") (hm : X.mg "zip" = none) (ha : PA X [e, e2] ta)
    (hs : starEach [e, e2] X.env = (false, eval e X.env) :: starEach [e2] X.env := by rfl) (hpl : (backTo pos (starEach [e2] X.env)).any (·.1) = false := by rfl) :
    PI X (.Tuple elts kk tpos) (.Call (.Name "zip" p) [e, e2] [] pos) (iZipB X.K ta) := by
  refine ⟨fun pins s σ H R I h => ?_⟩
  refine Call_ (ld_blt I hg hm PyProof.Rows.boot_zip (PyProof.Rows.callWith_type1 (thn (ha.run pos pins s σ H _ I h) fun us s1 ⟨vs, H1, I1, r1, q1⟩ => ?_) hs hpl))
  obtain ⟨a, b, xs, ys, ex, hqy, q⟩ := q1
  subst ex
  cases r1 with
  | cons r rr =>
    cases rr with
    | cons r' rr =>
      cases rr
      cases r
      cases r'
      have fresh5 : ∀ c, c ∈ [s1.heap.objs.size + 4, s1.heap.objs.size + 2, s1.heap.objs.size + 3, s1.heap.objs.size, s1.heap.objs.size + 1] → FpOk X pins H1 c := fun c hcm => by
        have hle : s1.heap.objs.size ≤ c := by
          have e' : c = s1.heap.objs.size + 4 ∨ c = s1.heap.objs.size + 2 ∨ c = s1.heap.objs.size + 3 ∨ c = s1.heap.objs.size ∨ c = s1.heap.objs.size + 1 := by simpa using hcm
          rcases e' with z | z | z | z | z
          · rw [z]; exact Nat.le_add_right _ _
          · rw [z]; exact Nat.le_add_right _ _
          · rw [z]; exact Nat.le_add_right _ _
          · rw [z]; exact Nat.le_refl _
          · rw [z]; exact Nat.le_add_right _ _
        exact I1.fpOk hle (I1.hok.fresh hle)
      rcases q with ⟨hqx, q⟩ | ⟨hqx, q⟩
      · obtain ⟨its, rv, p1, _⟩ := I1.tuple hqx
        obtain ⟨its2, rv2, p2, _⟩ := I1.tuple hqy
        obtain ⟨o1, ho1, _⟩ := id p1
        obtain ⟨o2, ho2, _⟩ := id p2
        refine RZ.call_zipT (show s1.heap.IsTuple a its.toArray from p1) (show s1.heap.IsTuple b its2.toArray from p2) fun h' hz hTI hTO h1 h2 hsz hk => wpAny_pyIter_zip hz ?_
        have I2 : Inv X pins σ H1 { s1 with heap := h' } := I1.kept (t' := s1.toks) hk
        exact ⟨s1.heap.objs.size + 4, [s1.heap.objs.size + 4, s1.heap.objs.size + 2, s1.heap.objs.size + 3, s1.heap.objs.size, s1.heap.objs.size + 1], _, _, H1, rfl, I2, RZ.turn_zipT (PySem.W.ktu_apart s1.heap.objs.size a b (Heap.lt_size ho1) (Heap.lt_size ho2)), ⟨hz, hTI, ⟨_, _, hTO⟩, h1, h2⟩, fresh5, q⟩
      · obtain ⟨its, rv, p1, _⟩ := I1.list hqx
        obtain ⟨its2, rv2, p2, _⟩ := I1.tuple hqy
        obtain ⟨o2, ho2, _⟩ := id p2
        refine zip_begins2 (begins_list a its.toArray) (begins_tuple b its2.toArray) p1.isList (show s1.heap.IsTuple b its2.toArray from p2) fun h' hz hTI hTO h1 h2 hsz hk => wpAny_pyIter_zip hz ?_
        have I2 : Inv X pins σ H1 { s1 with heap := h' } := I1.kept (t' := s1.toks) hk
        exact ⟨s1.heap.objs.size + 4, [s1.heap.objs.size + 4, s1.heap.objs.size + 2, s1.heap.objs.size + 3, s1.heap.objs.size, s1.heap.objs.size + 1], _, _, H1, rfl, I2, turn_zipM (PySem.W.ktu_apart s1.heap.objs.size a b p1.lt (Heap.lt_size ho2)), ⟨hz, hTI, ⟨_, _, hTO⟩, ⟨_, h1, rfl, rfl⟩, ⟨_, h2, rfl, rfl⟩⟩, fresh5, q⟩
theorem walk_zipM {K : PySem.W.Frag} {a b : Addr} {xs ys : List V} {n : Nat} (hn : n = min xs.length ys.length) : Walk (ItzM K a b) n (fun H => SqL K H a xs ∧ SqT K H b ys) (YPair (fun i => xs[i]?) (fun i => ys[i]?)) where
  goes i H hi q := by
    have hx : i < xs.length := by rw [hn] at hi; exact Nat.lt_of_lt_of_le hi (Nat.min_le_left _ _)
    have hy : i < ys.length := by rw [hn] at hi; exact Nat.lt_of_lt_of_le hi (Nat.min_le_right _ _)
    exact ⟨xs, ys, _, _, q.1, q.2, List.getElem?_eq_getElem hx, List.getElem?_eq_getElem hy⟩
  stops H q := ⟨xs, ys, q.1, q.2, by omega, by omega, by omega⟩
  yields i H v H' _ q y := by
    obtain ⟨T, x, z, ev, nT, eH, gx, gz⟩ := y
    exact ⟨T, x, z, ev, nT, eH, gx xs q.1, gz ys q.2⟩
theorem lc_zipIM {K : PySem.W.Frag} {a b : Addr} {xs ys : List Int} {σ : L2.St} {H : Hp} {Qd : Addr → Hp → Prop} {i j : Nat} {vs : List Nat} {te : TE} (f : Int → Int → Int) (hA : SqL K H a (xs.map V.int)) (hB : SqT K H b (ys.map V.int)) (hz : xs.length ≤ 1000)
    (hw : ∀ x y : Option V, wipe (((wipe σ vs).set i x).set j y) vs = wipe σ vs)
    (hte : ∀ (x y : Int) (H' : Hp) (Q' : VK), x ∈ xs → y ∈ ys → Same H H' → Q' (.int (f x y)) H' → te (((wipe σ vs).set i (some (.int x))).set j (some (.int y))) H' Q')
    (hd : ∀ D H', Same H H' → H D = none → H' D = some (.lst ((List.zipWith f xs ys).map V.int)) → Qd D H') :
    LcGoal (ItzM K a b) (gTup K 2 (gCons (gName i) (gCons (gName j) gNil))) tYes te vs σ H Qd := by
  intro D nD
  refine lc_it (walk_zipM (K := K) (a := a) (b := b) (xs := xs.map V.int) (ys := ys.map V.int) rfl) (fun k H' => Same H H' ∧ H' D = some (.lst (((List.zipWith f xs ys).take k).map V.int))) ⟨same_mut (Same.refl H) nD, upd_same⟩ (fun k H' _ hP => ⟨sql_same hP.1 hA, Same.tup hP.1 hB⟩) (fun k x H1 H2 hk hP hY => ?_) (fun H' hP => hd D H' hP.1 nD ?_)
  · obtain ⟨Ta, x1, y1, rfl, nT, rfl, e1, e2⟩ := hY
    obtain ⟨sm, eD⟩ := hP
    have sT : Same H1 (upd H1 Ta (.tup [x1, y1])) := same_upd nT
    have e1 : (xs.map V.int)[k]? = some x1 := e1
    have e2 : (ys.map V.int)[k]? = some y1 := e2
    rw [List.getElem?_map] at e1 e2
    cases h1 : xs[k]? with
    | none => rw [h1] at e1; cases e1
    | some z1 =>
      cases h2 : ys[k]? with
      | none => rw [h2] at e2; cases e2
      | some z2 =>
        rw [h1] at e1
        rw [h2] at e2
        have q1 : x1 = V.int z1 := (Option.some.inj e1).symm
        have q2 : y1 = V.int z2 := (Option.some.inj e2).symm
        subst q1 q2
        refine ⟨Ta, [.int z1, .int z2], rfl, .inl (.inl upd_same), rfl, .int z1, [.int z2], rfl, .int z2, [], rfl, rfl, hw _ _, ?_⟩
        refine hte z1 z2 _ _ (List.mem_of_getElem? h1) (List.mem_of_getElem? h2) (sm.trans sT) ⟨_, sT _ _ eD, ?_, same_mut (sm.trans sT) nD, ?_⟩
        · rw [List.length_map, List.length_take, List.length_zipWith]
          exact small1000 (by omega)
        · rw [upd_same, List.take_add_one, List.getElem?_zipWith, h1, h2, List.map_append]
          rfl
  · obtain ⟨sm, eD⟩ := hP
    rw [eD, List.take_of_length_le]
    rw [List.length_zipWith, List.length_map, List.length_map]
    exact Nat.le_refl _
end OC

set_option Elab.async false
set_option linter.all false
set_option maxRecDepth 100000
set_option maxHeartbeats 4000000
/-! max(xs, key=lambda x: x[0]) over a list of new tuples whose first thing is a whole number -/
namespace OC
open PySem PySem.Spec PyProof.Rows L2 LamX
/-- the first greatest -/
theorem best_first (f : Nat → Int) : ∀ n, argBest (fun i j => decide (f i > f j)) n ≤ n ∧ (∀ j, j ≤ n → f j ≤ f (argBest (fun i j => decide (f i > f j)) n)) ∧ (∀ j, j < argBest (fun i j => decide (f i > f j)) n → f j < f (argBest (fun i j => decide (f i > f j)) n))
  | 0 => ⟨Nat.le_refl _, fun j h => by
      have : j = 0 := by omega
      subst this
      exact Int.le_refl _, fun j h => absurd h (Nat.not_lt_zero _)⟩
  | n + 1 => by
    obtain ⟨h1, h2, h3⟩ := best_first f n
    simp only [argBest]
    generalize argBest (fun i j => decide (f i > f j)) n = b at h1 h2 h3
    by_cases c : f (n + 1) > f b
    · simp only [decide_eq_true c, if_true]
      refine ⟨Nat.le_refl _, fun j hj => ?_, fun j hj => ?_⟩
      · by_cases e : j = n + 1
        · rw [e]; exact Int.le_refl _
        · have := h2 j (by omega); omega
      · have := h2 j (by omega); omega
    · simp only [decide_eq_false c, Bool.false_eq_true, if_false]
      refine ⟨by omega, fun j hj => ?_, h3⟩
      by_cases e : j = n + 1
      · rw [e]; omega
      · exact h2 j (by omega)
/-- all but the frames' slots is as it was -/
structure Still (fs : List Addr) (h h' : Heap) : Prop where
  keep : ∀ b o, h.get? b = some o → b ∉ fs → h'.get? b = some o
  slot : ∀ b o, h.get? b = some o → ∃ sl, h'.get? b = some { o with slots := sl }
theorem Still.refl (fs : List Addr) (h : Heap) : Still fs h h := ⟨fun _ _ e _ => e, fun _ o e => ⟨o.slots, e⟩⟩
theorem Still.trans {fs : List Addr} {h h1 h2 : Heap} (a : Still fs h h1) (b : Still fs h1 h2) : Still fs h h2 := ⟨fun x o e n => b.keep x o (a.keep x o e n) n, fun x o e => by
  obtain ⟨s1, e1⟩ := a.slot x o e
  obtain ⟨s2, e2⟩ := b.slot x _ e1
  exact ⟨s2, e2⟩⟩
theorem Still.of {fs : List Addr} {h h' : Heap} (k : ∀ b o, h.get? b = some o → h'.get? b = some o) : Still fs h h' := ⟨fun b o e _ => k b o e, fun b o e => ⟨o.slots, k b o e⟩⟩
section
variable {X : Cx} {pins : List (Addr × Obj)} {σ : L2.St} {H : Hp} {s : Shared}
theorem inv_still (I : Inv X pins σ H s) {s' : Shared} (q : Still (frs X.stack) s.heap s'.heap) (os : s'.os = s.os) (bare : AllBare s'.gens) : Inv X pins σ H s' := by
  obtain ⟨hh, g, d, t, os'⟩ := s'
  obtain rfl : os' = s.os := os
  have q : Still (frs X.stack) s.heap hh := q
  have nf : ∀ b, H b ≠ none → b ∉ frs X.stack := fun b nb m => nb (I.env0.frf b m)
  refine I.call (h' := hh) (g' := g) (d' := d) (t' := t) (ch := []) ⟨fun b o e n hf _ => q.keep b o e hf, fun b o e n hf _ => q.slot b o e, fun b o e n _ => n, fun b o e _ => ?_, fun b xs e => e, fun b o u e => e, fun b ps e => ⟨#[], by rw [Array.append_empty]; exact e⟩⟩ (fun b u e => ?_) bare (fun b z => absurd z (by simp))
  · obtain ⟨sl, e1⟩ := q.slot b o e
    exact ⟨_, e1⟩
  · refine (I.hok b u e).stay (fun d v hd x => q.keep d v x (nf d ?_)) (fun d z => z) (fun d xs z => z)
    rcases hd with z | z
    · rw [z, e]; simp
    · rw [z]; simp
/-- the lambda's call: what it is given is a tuple, what it tells is its first thing -/
theorem lam_first {k : Nat} {f c' a : Addr} {q : Str} {params : Arguments} {x : Str} {scope : Scope} {pm ctv : Value} {p1 p2 p3 : Pos} {kd : Nat} {i : Int} {xs : List V} (I : Inv X pins σ H s) (A : Around) (hA : A.frames = some X.stack) (hd : A.handled = none) (hr : Room (k + 1) A)
    (hf : s.heap.get? f = some (PySem.W.kla_obj "<lambda>" q params (.Subscript (.Name x p1) (.Constant (.int 0) kd p2) p3) scope [] pm c' ctv)) (hc : H c' = some (CodeO c' q)) (ha : H a = some (.tup (.int i :: xs)))
    (hb : ∀ v : Value, bindArgs (PySem.W.kla_fn "<lambda>" q params (.Subscript (.Name x p1) (.Constant (.int 0) kd p2) p3) scope [] pm (.ref c') ctv) ⟨[v], []⟩ = pure [(x, v)])
    (S : FnScope [x] [x] scope) (hv : Vis scope x) (hk1 : (x == ("__debug__" : Str)) = false) (hk2 : (x == ("__classdict__" : Str)) = false) {Q : Value → Shared → Prop} {E : Value → Shared → Prop}
    (hQ : ∀ t s', Still (frs X.stack) s.heap s'.heap → s'.os = s.os → AllBare s'.gens → Q (.int i t) s') : wpAny (model X.prog X.w) A (call (.ref f) [.ref a]) Q E s := by
  obtain ⟨⟨oc, ws, tq, hoc, hdc, hvc⟩, _, _⟩ := I.hok c' _ hc
  obtain ⟨lz, its, rv, oa, hoa, hca, na, hda⟩ : ObjOk X.prog X.w H s.heap a (.tup (.int i :: xs)) := I.hok a _ ha
  let H0 : Hp := upd (fun _ => none) a (.frz oa (.tup (.int i :: xs)))
  have h0a : H0 a = some (.frz oa (.tup (.int i :: xs))) := upd_same
  have h0n : ∀ b, b ≠ a → H0 b = none := fun b n => upd_ne n
  have e1 := I.env0
  have hk0 : HOk X.prog X.w H0 s.heap := fun b u e => by
    by_cases hb2 : b = a
    · subst hb2
      rw [h0a] at e
      cases e
      exact ⟨hoa, lz, its, rv, oa, hoa, hca, na, hda⟩
    · rw [h0n b hb2] at e
      cases e
  have e0 : Env0 X.prog X.w X.K X.mg X.base A X.stack s H0 := ⟨hA, e1.mod, fun b o e => ⟨(e1.bs b o e).1, h0n b (fun z => by
      have := (e1.bs b o e).2
      rw [z, ha] at this
      cases this)⟩, e1.bsz, e1.funs, fun b hb => h0n b (fun z => by
      have := e1.frf b hb
      rw [z, ha] at this
      cases this), hk0, e1.bare⟩
  have rc : codeAny (model X.prog X.w) A (.call (.ref f) ⟨[.ref a], []⟩) (CR CX0 X.stack X.prog X.w H0 s (fun v H' => v = .int i ∧ H' = H0) E0) s := by
    refine PySem.W.kla_callFunE hr.depth hf rfl S.co S.gen rfl ⟨c', oc, ws, tq, rfl, hoc, hdc, hvc⟩ ?_
    rw [hb]
    refine wpAny_pure ?_
    have kinds : ∀ y ∈ [(x, Value.ref a)], scope.names.lookup y.1 = some .local ∨ (scope.names.lookup y.1 = some .cell ∧ ((cellsFrom (s.heap.objs.size + 1) scope.names []).lookup y.1).isSome = true) := fun y hy => by
      rw [List.mem_singleton.mp hy]
      exact (S.par x (List.mem_singleton.mpr rfl)).imp id fun q => ⟨q, PySem.W.cellsFrom_some _ _ _ (.inl q)⟩
    refine wpAny_newFunctionEnv_cells S.kind kinds fun env he s1 ic => ?_
    cases he
    refine ⟨I.nolimit.keeps ic.toInCall.keep, ?_⟩
    have J : Inv (cxOf CX0 X.prog X.w X.K X.mg X.base [x] q scope f (.ref c') A X.stack s H0 E0) [] (start [x] [.ref a]) H0 s1 := inv_start (ps := [x]) S hd e0 rfl (.cons rfl .nil) ic
    have bd : PE (cxOf CX0 X.prog X.w X.K X.mg X.base [x] q scope f (.ref c') A X.stack s H0 E0) (.Subscript (.Name x p1) (.Constant (.int 0) kd p2) p3) _ := pe_ix ix_tup (pe_var (i := 0) rfl hv hk1 hk2) pe_int (fun _ _ => rfl)
    have ran := bd.run [] s1 (start [x] [.ref a]) H0 (fun v H' => v = .int i ∧ H' = H0) J ⟨.ref a, rfl, a, _, 0, .int i, rfl, rfl, .inl (.inr ⟨_, h0a⟩), at_of (j := 0) rfl rfl, rfl, rfl⟩
    refine PySem.W.kla_codeExpr (wpAny_mono ran (fun v s' hq => ?_) fun e s' hq => hq)
    obtain ⟨w', H', J', rv', q⟩ := hq
    exact ⟨w', H', J'.os, J'.bare, J'.base, J'.hok, rv', q⟩
  refine wpAny_call (codeAny_mono rc fun r s' hq => ?_)
  cases r with
  | error e => exact (show False from hq).elim
  | ok fl =>
    cases fl with
    | next => exact False.elim hq
    | brk => exact False.elim hq
    | cont => exact False.elim hq
    | ret u =>
      obtain ⟨v, H', os, bare, un, hok, rv', q1, q2⟩ := hq
      subst q1 q2
      obtain ⟨t, rfl⟩ : ∃ t, u = Value.int i t := rv'
      have ea : s'.heap.get? a = some oa := (hok a _ h0a).1
      refine hQ t s' ⟨fun b o e n => ?_, fun b o e => ?_⟩ os bare
      · by_cases hb2 : b = a
        · subst hb2
          rw [hoa] at e
          cases e
          exact ea
        · exact un.keep b o e (h0n b hb2) n (by simp)
      · by_cases hb2 : b = a
        · subst hb2
          rw [hoa] at e
          cases e
          exact ⟨oa.slots, ea⟩
        · exact un.any e (h0n b hb2) (by simp)
/-! ### the call -/
def tMaxKey (K : PySem.W.Frag) (T : List (Addr × Str)) (te : TE) : TE := fun σ H Q => te σ H fun v H1 => ∃ (l : Addr) (as : List Addr) (ks : List Int), v = .ref l ∧ H1 l = some (.lst (as.map V.ref)) ∧ as.length = ks.length ∧ 0 < ks.length ∧
  (∀ j, j < ks.length → ∃ a xs, as[j]? = some a ∧ H1 a = some (.tup (.int (ks.getD j 0) :: xs))) ∧ Tabs T H1 ∧
  ∀ H2 m a, ExtN H1 H2 → Tabs T H2 → m < ks.length → as[m]? = some a → (∀ j, j < ks.length → ks.getD j 0 ≤ ks.getD m 0) → (∀ j, j < m → ks.getD j 0 < ks.getD m 0) → Q (.ref a) H2
theorem nofr {b : Addr} (I : Inv X pins σ H s) (hf : s.heap.objs.size ≤ b) : b ∉ frs X.stack := fun z => by
  rcases List.mem_cons.mp (I.stkSub _ z) with e | e
  · have h1 := I.lt
    rw [← e] at h1
    exact Nat.lt_irrefl _ (Nat.lt_of_lt_of_le h1 hf)
  · exact I.nofs hf e
theorem vals_refs {its : List Value} {as : List Addr} (r : Vals (as.map V.ref) its) : its = as.map Value.ref := by
  induction as generalizing its with
  | nil => cases r; rfl
  | cons a t ih =>
    cases r with
    | cons r1 r2 => rw [List.map_cons, ← ih r2, show _ = Value.ref a from r1]
theorem pe_maxKey {T : List (Addr × Str)} {c P : Addr} {k : Nat} {e : Expr} {te : TE} {x : Str} {params : Arguments} {scope : Scope} {p p1 p2 p3 lpos kpos pos : Pos} {kd : Nat} (hr : Room (k + 2) X.A) (hg : Gl X "max") (hm : X.mg "max" = none) (TB : TabB X.base X.mg c P) (hcode : X.env.code = .ref c) (hmT : (P, X.env.qual ++ "<lambda>") ∈ T) (hu : ∀ q ∈ T, q.1 = P → q.2 = X.env.qual ++ "<lambda>")
    (hdef : defaultsOf params X.env = ([], [])) (hcl : ∀ cells, cloFrom cells scope.names [] = []) (S : FnScope [x] [x] scope) (hv : Vis scope x)
    (hb : ∀ (q : Str) (pm c' ctv : Value) (v : Value), bindArgs (PySem.W.kla_fn "<lambda>" q params (.Subscript (.Name x p1) (.Constant (.int 0) kd p2) p3) scope [] pm c' ctv) ⟨[v], []⟩ = pure [(x, v)])
    (ha : PA X [e] (tCons te tNil)) (hk1 : (x == ("__debug__" : Str)) = false := by decide) (hk2 : (x == ("__classdict__" : Str)) = false := by decide)
    (he : backTo pos (starEach [e] X.env) = (false, eval e X.env) :: backTo pos (starEach [] X.env) := by rfl) (hpl : (backTo pos (starEach [e] X.env)).any (·.1) = false := by rfl) :
    PE X (.Call (.Name "max" p) [e] [⟨some "key", .Lambda params (.Subscript (.Name x p1) (.Constant (.int 0) kd p2) p3) scope lpos, kpos⟩] pos) (tMaxKey X.K T te) := by
  refine ⟨fun pins s σ H Q I h => ?_⟩
  refine wpAny_Call_Name_kw (ld_blt I hg hm rfl ?_ (by decide) (by decide))
  let R : V → Hp → Prop := fun v H1 => ∃ (l : Addr) (as : List Addr) (ks : List Int), v = .ref l ∧ H1 l = some (.lst (as.map V.ref)) ∧ as.length = ks.length ∧ 0 < ks.length ∧
    (∀ j, j < ks.length → ∃ a xs, as[j]? = some a ∧ H1 a = some (.tup (.int (ks.getD j 0) :: xs))) ∧ Tabs T H1 ∧
    ∀ H2 m a, ExtN H1 H2 → Tabs T H2 → m < ks.length → as[m]? = some a → (∀ j, j < ks.length → ks.getD j 0 ≤ ks.getD m 0) → (∀ j, j < m → ks.getD j 0 < ks.getD m 0) → Q (.ref a) H2
  refine PyProof.Rows.callWith_kw (thn (ha.run pos pins s σ H (fun vs H1 => match vs with | [v] => R v H1 | _ => False) I h) fun us s1 ⟨vs, H1, I1, r1, q1⟩ => ?_) he hpl rfl rfl
  obtain ⟨v, rfl⟩ : ∃ v, vs = [v] := by
    match vs, q1 with
    | [v], _ => exact ⟨v, rfl⟩
  obtain ⟨l, as, ks, rfl, hL, hlen, hpos, hks, hT, q⟩ : R v H1 := q1
  rw [Vals.ref1 r1]
  show wpAny _ _ (evalAll [do let v ← eval (.Lambda params (.Subscript (.Name x p1) (.Constant (.int 0) kd p2) p3) scope lpos) X.env; standAt pos; pure v]) _ _ s1
  refine wpAny_evalAll_cons (wpAny_bind (lam_make2 I1 TB hcode hmT hu hT hdef (fun y hy e => absurd e (S.nofree y hy)) fun f c' pm ctv H2 s2 I2 eN T2 hf hfn hfr hco => wpAny_bind (wpAny_standAt (wpAny_pure ?_))))
  refine wpAny_evalAll_nil ?_
  rw [hcl] at hf
  have hL2 : H2 l = some (.lst (as.map V.ref)) := eN _ _ hL (fun ps z => by cases z)
  obtain ⟨its, rv, ⟨oL, nL, hoL, hcL, hdL, hsL⟩, _⟩ := I2.list (.inl (.inl hL2))
  have eits := vals_refs rv
  subst eits
  have hls : s2.heap.IsList l (as.map Value.ref).toArray := ⟨oL, hoL, hcL, nL, hsL⟩
  show wpAny (model X.prog X.w) X.A (call (.builtin "max") [.ref l] [(Str.ofString "key", .ref f)]) _ _ s2
  refine call_max_walkK (wpAny_pyIter_list hls ?_)
  have hh : X.A.handled = none := hr.hd
  have ltL : l < s2.heap.objs.size := Heap.lt_size hoL
  have nf : ∀ b u, H2 b = some u → b ∉ frs X.stack := fun b u e z => by
    rw [I2.env0.frf b z] at e
    cases e
  have sz : (as.map Value.ref).toArray.size = as.length := by simp
  have W := Walks.list (prog := X.prog) (w := X.w) (A := X.A.in1) hh s2.heap.objs.size l (Nat.ne_of_lt ltL) (as.map Value.ref).toArray
  refine ⟨_, [_, l], [_], _, _, _, _, (fun s' => Still (frs X.stack) s2.heap s'.heap ∧ s'.os = s2.os ∧ AllBare s'.gens), (fun i k _ => ∃ t, k = .int (ks.getD i 0) t), (fun i j => decide (ks.getD i 0 > ks.getD j 0)), rfl, W.toS, ⟨⟨_, Heap.get?_push_size _ rfl, rfl, rfl⟩, hls.push _⟩, fun b hb => ?_, by rw [sz, hlen]; exact hpos, ?_, ?_, fun v s' hv' hJ => ?_⟩
  · show b < (s2.heap.push _).objs.size
    rw [Heap.size_push]
    rcases List.mem_cons.mp hb with rfl | hb
    · exact Nat.lt_succ_self _
    · rcases List.mem_cons.mp hb with rfl | hb
      · exact Nat.lt_succ_of_lt ltL
      · cases hb
  · have fI : s2.heap.objs.size ∉ frs X.stack := nofr I2 (Nat.le_refl _)
    have fS : (s2.heap.push { cls := .type "list_iterator", data := .fields #[.ref l, .int 0 0] }).objs.size ∉ frs X.stack := nofr I2 (by rw [Heap.size_push]; exact Nat.le_succ _)
    refine ⟨fun s0 s' hJ hm => ?_, fun i k _ _ hv' _ => hv', fun i v s0 o Q' E' hi hP hJ hSt hS hQ => ?_, fun i j ki kj s0 Q' E' hJ h1 h2 hq => ?_⟩
    · obtain ⟨st, os, bare⟩ := hJ
      have off : ∀ b o, s2.heap.get? b = some o → b ∉ (s2.heap.push { cls := .type "list_iterator", data := .fields #[.ref l, .int 0 0] }).objs.size :: [s2.heap.objs.size] := fun b o e z => by
        have lt := Heap.lt_size e
        rcases List.mem_cons.mp z with z | z
        · rw [z, Heap.size_push] at lt
          exact absurd lt (Nat.not_lt.mpr (Nat.le_succ _))
        · rw [List.mem_singleton.mp z] at lt
          exact Nat.lt_irrefl _ lt
      refine ⟨⟨fun b o e n => hm.heap b o (off b o e) (st.keep b o e n), fun b o e => ?_⟩, hm.os.trans os, ?_⟩
      · obtain ⟨sl, e1⟩ := st.slot b o e
        exact ⟨sl, hm.heap b _ (off b o e) e1⟩
      · rw [show s'.gens = s0.gens from hm.gens]
        exact bare
    · obtain ⟨st, os, bare⟩ := hJ
      have I3 : Inv X pins σ H2 s0 := inv_still I2 st os bare
      rw [sz, hlen] at hi
      obtain ⟨a, xs, ga, ha'⟩ := hks i hi
      have ev : v = .ref a := by
        have hP' : (as.map Value.ref).toArray[i]? = some v := hP
        rw [List.getElem?_toArray, List.getElem?_map, ga] at hP'
        exact (Option.some.inj hP').symm
      subst ev
      obtain ⟨hit, hlt⟩ := hSt
      have k3 : ∀ b o, b ∉ frs X.stack → s2.heap.get? b = some o → s0.heap.get? b = some o := fun b o n e => st.keep b o e n
      refine lam_first (k := k) I3 X.A.in1 I3.env0.in1.frames hr.hd hr.in1 (k3 f _ hfr hf) hco (eN _ _ ha' (fun ps z => by cases z)) (hb _ _ _ _) S hv hk1 hk2 (fun t s' st' os' bare' => ?_)
      refine hQ _ s' ⟨st.trans st', os'.trans os, bare'⟩ ⟨hit.at fun o e => st'.keep _ _ e fI, hlt.at fun o e => st'.keep _ _ e (nf _ _ hL2)⟩ (st'.keep _ _ hS fS) ⟨t, rfl⟩ (fun j k' h => h)
    · exact CmpOf.ints_gt (prog := X.prog) (w := X.w) (A := X.A.in1) (P := fun i v => ∃ t, v = .int (ks.getD i 0) t) (fun i => ks.getD i 0) (fun i v h => h) i j _ _ _ _ _ h1 h2 hq
  · exact ⟨Still.of fun b o e => Heap.get?_push_of_some _ e, rfl, I2.bare⟩
  · obtain ⟨st, os, bare⟩ := hJ
    obtain ⟨b1, b2, b3⟩ := best_first (fun i => ks.getD i 0) ((as.map Value.ref).toArray.size - 1)
    have hv2 : (as.map Value.ref).toArray[argBest (fun i j => decide (ks.getD i 0 > ks.getD j 0)) ((as.map Value.ref).toArray.size - 1)]? = some v := hv'
    rw [sz, hlen] at b1 b2 b3
    rw [sz, hlen] at hv2
    generalize argBest (fun i j => decide (ks.getD i 0 > ks.getD j 0)) (ks.length - 1) = m at b1 b2 b3 hv2
    obtain ⟨a, xs, ga, ha'⟩ := hks m (by omega)
    rw [List.getElem?_toArray, List.getElem?_map, ga] at hv2
    cases hv2
    exact ⟨.ref a, H2, inv_still I2 st os bare, rfl, q H2 m a eN T2 (by omega) ga (fun j hj => b2 j (by omega)) b3⟩
end
end OC

set_option Elab.async false
set_option linter.all false
set_option maxRecDepth 100000
set_option maxHeartbeats 2000000
/-! tables of code objects: what stays where a lambda is made; the end with one table and the modules' dict -/
namespace OC
open PySem PySem.Spec PyProof.Rows L2 LamX
/-! ### what stays -/
theorem ExtN.same {H H' : Hp} (e : Same H H') : ExtN H H' := fun b o h _ => e b o h
theorem ExtN.tk {H H' : Hp} (e : ExtN H H') : Tk H H' := fun K a xs h => by
  rcases h with (h | ⟨o, h⟩) | h
  · exact .inl (.inl (e _ _ h fun ps z => by cases z))
  · exact .inl (.inr ⟨o, e _ _ h fun ps z => by cases z⟩)
  · exact .inr h
theorem ExtN.lst {H H' : Hp} (e : ExtN H H') {a : Addr} {xs : List V} (h : H a = some (.lst xs)) : H' a = some (.lst xs) := e _ _ h fun ps z => by cases z
theorem ExtN.tup {H H' : Hp} (e : ExtN H H') {a : Addr} {xs : List V} (h : H a = some (.tup xs)) : H' a = some (.tup xs) := e _ _ h fun ps z => by cases z
/-- all but the deck's two lists and the tables stays -/
def KeptN (d c : Addr) (H H' : Hp) : Prop := ∀ b o, H b = some o → b ≠ d → b ≠ c → (∀ ps, o ≠ .tbl ps) → H' b = some o
theorem KeptN.refl (d c : Addr) (H : Hp) : KeptN d c H H := fun _ _ h _ _ _ => h
theorem KeptN.trans {d c : Addr} {H H1 H2 : Hp} (a : KeptN d c H H1) (b : KeptN d c H1 H2) : KeptN d c H H2 := fun x o h n m t => b x o (a x o h n m t) n m t
theorem KeptN.of {d c : Addr} {H H' : Hp} (a : Kept d c H H') : KeptN d c H H' := fun x o h n m _ => a x o h n m
theorem KeptN.ext {d c : Addr} {H H' : Hp} (a : ExtN H H') : KeptN d c H H' := fun x o h _ _ t => a x o h t
section
variable {T : List (Addr × Str)} {H H' : Hp}
theorem Tabs.same (t : Tabs T H) (e : Same H H') : Tabs T H' := t.ext e
/-- tables stay where all but two lists stays -/
theorem Tabs.kept {d c : Addr} {xs ys : List V} (t : Tabs T H) (hd : H d = some (.lst xs)) (hc : H c = some (.lst ys)) (k : Kept d c H H') : Tabs T H' := fun p hp => by
  obtain ⟨ps, h1, h2, h3⟩ := t p hp
  have nd : ∀ {b : Addr} {o : HO}, H b = some o → (∀ zs, o ≠ .lst zs) → b ≠ d ∧ b ≠ c := fun {b o} e n => ⟨fun z => by
    rw [z, hd] at e
    exact n _ (Option.some.inj e).symm, fun z => by
    rw [z, hc] at e
    exact n _ (Option.some.inj e).symm⟩
  obtain ⟨n1, n2⟩ := nd h1 (fun zs z => by cases z)
  refine ⟨ps, k _ _ h1 n1 n2, h2, fun pos cv hcv => ?_⟩
  obtain ⟨co, e1, e2⟩ := h3 pos cv hcv
  obtain ⟨m1, m2⟩ := nd e2 (fun zs z => by
    unfold CodeO at z
    cases z)
  exact ⟨co, e1, k _ _ e2 m1 m2⟩
/-- one table -/
abbrev T1 (P : Addr) (q : Str) : List (Addr × Str) := [(P, q)]
theorem tabs_nil {P : Addr} {q : Str} (h : H P = some (.tbl #[])) : Tabs (T1 P q) H := fun p hp => by
  rw [List.mem_singleton.mp hp]
  exact .nil h
end
/-! ### the end -/
section
variable {P : Program} {w : World} {K : PySem.W.Frag} {mg mb : Str → Option Value} {CX : CXT} {k : Nat} {fa a cT PT : Addr} {fd : FuncData} {x : Str} {sp : Sp} {s₁ : Shared} {vs : List Value} {ns : List Int}
theorem law_callT (inK : K.In s₁.heap) (gNs : s₁.heap.Ns mainGlobals mg) (bNs : s₁.heap.Ns builtinsNs mb) (bAt : ∀ x : Str, x ≠ "__name__" → mb x = bootBuiltins x) (sys : ∃ mm, s₁.heap.Ns sysModules mm) (lim : s₁.heap.NoLimit) (g0 : s₁.gens = #[])
    (tab : s₁.heap.get? PT = some (PySem.W.tabObj #[])) (tabK : K.lookup PT = none) (code : PySem.W.CodeHd s₁.heap cT PT) (main : ∃ (bm : Addr) (ob : Obj), mg "__builtins__" = some (.ref bm) ∧ bm ≠ builtinsNs ∧ s₁.heap.get? bm = some ob ∧ ob.cls = .type "module" ∧ ob.dict = some builtinsNs ∧ ob.data = .plain)
    (scr : s₁.heap.get? a = some { cls := .type "list", data := .seq vs.toArray }) (hi : IntsAre vs ns) (hl : ns.length ≤ sizeLine) (hr : Room k callerA)
    (F : ∀ base : Heap, K.In base → base.Ns mainGlobals mg → HasSys base → TabB base mg cT PT → FnG P w K mg base CX k fa fd [x] sp) (hbind : ∀ (s : Shared) (u : Value), BindsTo s fd ⟨[u], []⟩ [(x, u)])
    (hsp : ∀ H : Hp, H PT = some (.tbl #[]) → SqL K H a (ns.map V.int) → sp [.ref a] H (fun v _ => v = .bl true) fun _ _ _ => False) (hCX : ∀ H e s', CX [] H s₁ (fun _ _ _ => False) e s' → False) :
    codeAny (model P w) callerA (.call (.ref fa) ⟨[.ref a], []⟩) (fun r s' => r = .ok (.ret (.bool true)) ∧ OldK s₁.heap s'.heap ∧ s'.os = s₁.os ∧ AllBare s'.gens) s₁ := by
  obtain ⟨mm, sNs⟩ := sys
  have aPT : PT ≠ a := fun z => by
    rw [z, scr] at tab
    have z' : Data.seq vs.toArray _ = Data.fields #[] := congrArg Obj.data (Option.some.inj tab)
    cases z'
  have core : ∀ H : Hp, H PT = some (.tbl #[]) → (∀ b, b ≠ PT → H b = none ∨ ∃ o xs, H b = some (.frz o (.lst xs))) → SqL K H a (ns.map V.int) → HOk P w H s₁.heap → (∀ b, b ≠ PT → H b ≠ none → b = a) → (H a ≠ none → K.lookup a = none) →
      codeAny (model P w) callerA (.call (.ref fa) ⟨[.ref a], []⟩) (fun r s' => r = .ok (.ret (.bool true)) ∧ OldK s₁.heap s'.heap ∧ s'.os = s₁.os ∧ AllBare s'.gens) s₁ := by
    intro H hP hO hS hok only hK
    -- what is no list and no empty table is not tracked
    have off : ∀ {b : Addr} {o : Obj}, s₁.heap.get? b = some o → (∀ its n, o.data ≠ .seq its n) → (o.data = .fields #[] → o.cls ≠ .none) → H b = none := fun {b o} e n1 n2 => by
      apply Classical.byContradiction
      intro nb
      by_cases hb : b = PT
      · subst hb
        rw [tab] at e
        cases e
        exact n2 rfl rfl
      · have eb := only b hb nb
        subst eb
        rw [scr] at e
        cases e
        exact n1 _ _ rfl
    have offD : ∀ {b : Addr} {o : Obj} {es : Array DictEntry} {ep : Nat}, s₁.heap.get? b = some o → o.data = .dict es ep → H b = none := fun e d => off e (fun its n z => by rw [d] at z; cases z) (fun z => by rw [d] at z; cases z)
    have nsB : ∀ {b : Addr} {m : Str → Option Value}, s₁.heap.Ns b m → (hidT s₁.heap H).Ns b m := fun {b m} ⟨o, es, ep, e, d, r⟩ => ⟨o, es, ep, hidT_get e (offD e d), d, r⟩
    have inB : K.In (hidT s₁.heap H) := fun b o e => by
      refine hidT_get (inK b o e) ?_
      apply Classical.byContradiction
      intro nb
      by_cases hb : b = PT
      · rw [hb, tabK] at e
        cases e
      · have eb := only b hb nb
        subst eb
        rw [hK nb] at e
        cases e
    obtain ⟨mc, l1, l2⟩ := lim
    have M : Mod K mg (hidT s₁.heap H) := ⟨inB, nsB gNs, ⟨mb, nsB bNs, bAt⟩, ⟨mc, nsB l1, l2⟩⟩
    have hs : HasSys (hidT s₁.heap H) := by
      obtain ⟨o, es, ep, e, _⟩ := nsB sNs
      exact ⟨o, e⟩
    have TB : TabB (hidT s₁.heap H) mg cT PT := by
      refine ⟨?_, ?_, fun z => ?_⟩
      · obtain ⟨o, us, file, tf, flags, tg, inF, text, tt, c1, c2, c3, c4, r⟩ := code
        refine ⟨o, us, file, tf, flags, tg, inF, text, tt, hidT_get c1 (off c1 (fun its n z => by rw [c3] at z; cases z) (fun _ z => by rw [c2] at z; cases z)), c2, c3, c4, r⟩
      · obtain ⟨bm, ob, b1, b2, b3, b4, b5, b6⟩ := main
        refine ⟨bm, ob, b1, b2, fun z => ?_, fun z => ?_, hidT_get b3 (off b3 (fun its n z => by rw [b6] at z; cases z) (fun z => by rw [b6] at z; cases z)), b4, b5, b6⟩
        · obtain ⟨o, es, ep, e, d, _⟩ := gNs
          rw [z, e] at b3
          cases b3
          rw [d] at b6
          cases b6
        · rw [z, tab] at b3
          cases b3
          cases b6
      · obtain ⟨o, es, ep, e, d, _⟩ := gNs
        rw [z, tab] at e
        cases e
        cases d
    have e0 : Env0 P w K mg (hidT s₁.heap H) callerA [] s₁ H :=
      ⟨rfl, M, fun b o e => of_hidT e, Nat.le_of_eq (hidT_size _ _), trivial, fun b hb => (nomatch (show b ∈ ([] : List Addr) from hb)), hok, .of_eq g0⟩
    have run := (F _ inB (nsB gNs) hs TB).go callerA [] s₁ H ⟨[.ref a], []⟩ [.ref a] [.ref a] _ _ hr rfl e0 (hbind s₁ (.ref a)) (.cons rfl .nil) (hsp H hP hS)
    apply codeAny_mono run
    intro r s' h
    rcases r with e | fl
    · exact (hCX H e s' h).elim
    · rcases fl with _ | _ | _ | u
      all_goals first
        | exact (show False from h).elim
        | skip
      obtain ⟨v, H', os, bare, un, hok', r', q⟩ := h
      cases (show v = .bl true from q)
      cases (show u = Value.bool true from r')
      obtain ⟨more, mH⟩ := un.tbls PT #[] hP
      have mP : s'.heap.get? PT = some { cls := .none, data := .fields (#[] ++ more) } := hok' PT _ mH
      have stay : ∀ b o, b ≠ PT → s₁.heap.get? b = some o → s'.heap.get? b = some o := fun b o n e => by
        rcases hO b n with z | ⟨ob, xs, z⟩
        · exact un.keep b o e z (fun y => (nomatch (show b ∈ ([] : List Addr) from y))) (fun y => (nomatch y))
        · have e1 := (hok b _ z).1
          have e2 := (hok' b _ (un.frzs b ob _ z)).1
          rw [e] at e1
          rw [Option.some.inj e1]
          exact e2
      refine ⟨rfl, ⟨fun b o e => ?_, fun b o e => ?_⟩, os, bare⟩
      · by_cases hb : b = PT
        · subst hb
          have e2 := e
          rw [tab] at e2
          cases e2
          exact .inr (.inl ⟨(code.tab tab).isCodeTable, rfl, #[], more, rfl, mP⟩)
        · exact .inl (stay b o hb e)
      · by_cases hb : b = PT
        · rw [hb]
          exact ⟨_, mP⟩
        · exact ⟨o, stay b o hb e⟩
  have rv := vals_ints hi
  have lv := hi.length
  let H1 : Hp := upd (fun _ => none) PT (.tbl #[])
  have h1P : H1 PT = some (.tbl #[]) := upd_same
  have h1n : ∀ b, b ≠ PT → H1 b = none := fun b n => upd_ne n
  cases hk : K.lookup a with
  | some o =>
    have e := inK a o hk
    rw [scr] at e
    have eo := (Option.some.inj e).symm
    subst eo
    refine core H1 h1P (fun b n => .inl (h1n b n)) (.inr ⟨_, vs.toArray, _, hk, rfl, rfl, rfl, by rw [List.size_toArray, lv]; exact hl, by simpa using rv⟩) (fun b u z => ?_) (fun b n z => (z (h1n b n)).elim) (fun z => (z (h1n a aPT.symm)).elim)
    by_cases hb : b = PT
    · subst hb
      rw [h1P] at z
      cases z
      exact tab
    · rw [h1n b hb] at z
      cases z
  | none =>
    let H2 : Hp := upd H1 a (.frz { cls := .type "list", data := .seq vs.toArray } (.lst (ns.map V.int)))
    have h2a : H2 a = some (.frz { cls := .type "list", data := .seq vs.toArray } (.lst (ns.map V.int))) := upd_same
    have h2P : H2 PT = some (.tbl #[]) := by rw [show H2 PT = H1 PT from upd_ne aPT]; exact h1P
    have h2n : ∀ b, b ≠ PT → b ≠ a → H2 b = none := fun b n m => by rw [show H2 b = H1 b from upd_ne m]; exact h1n b n
    refine core H2 h2P (fun b n => ?_) (.inl (.inr ⟨_, h2a⟩)) (fun b u z => ?_) (fun b n z => ?_) (fun _ => hk)
    · by_cases hb : b = a
      · subst hb
        exact .inr ⟨_, _, h2a⟩
      · exact .inl (h2n b n hb)
    · by_cases hb : b = PT
      · subst hb
        rw [h2P] at z
        cases z
        exact tab
      · by_cases hb2 : b = a
        · subst hb2
          rw [h2a] at z
          cases z
          exact ⟨scr, by rw [List.length_map]; exact hl, vs, _, rv, scr⟩
        · rw [h2n b hb hb2] at z
          cases z
    · apply Classical.byContradiction
      intro hb
      exact z (h2n b n hb)
end
theorem walk_ofT {l : PySem.W.OpenLaw} {n k : Nat} {q : Program} {loose : List Str} {XP : (Str → Option Value) → Heap → Prop} {YP : World → Heap → Prop} {d dT : DefRec} {K : Params → PySem.W.Frag} {CX : World → CXT} {sp : World → Addr → Sp} {x nT : Str}
    (hn : l.most = some n) (hn2 : n ≤ sizeLine) (hdf : d.params.defaults = []) (hr : Room k callerA) (him : importsNone q = true) (hrec : (recsOf q).find? (fun e => e.name == nT) = some dT) (hY : ∀ (w : World) (h : Heap), YP w h → (K w.params).In h)
    (F : ∀ (w : World) (mg : Str → Option Value) (fa : Addr) (h : Heap), (K w.params).In h → h.Ns mainGlobals mg → mg d.name = some (.ref fa) → ∃ (fd : FuncData) (cT PT : Addr), PySem.W.tabIn (K w.params) nT = some (cT, PT) ∧ (K w.params).lookup PT = none ∧ (∀ (s : Shared) (u : Value), BindsTo s fd ⟨[u], []⟩ [(x, u)]) ∧
      ∀ base : Heap, (K w.params).In base → base.Ns mainGlobals mg → HasSys base → TabB base mg cT PT → FnG l.prog w (K w.params) mg base (CX w) k fa fd [x] (sp w PT))
    (hsp : ∀ (w : World) (H : Hp) (PT a : Addr) (ns : List Int), ns.length ≤ n → H PT = some (.tbl #[]) → SqL (K w.params) H a (ns.map V.int) → sp w PT [.ref a] H (fun v _ => v = .bl true) fun _ _ _ => False) (hCX : ∀ (w : World) (H : Hp) (s : Shared) (e : Value) (s' : Shared), CX w [] H s (fun _ _ _ => False) e s' → False) :
    PySem.W.WalkO q loose XP YP l.row.toRowW d [] (fun f vs => PySem.call f vs) := by
  apply Att.attach_call hn hdf
  intro w s₀ s₁ mg mb fa o pm cd doc a vs ns G Y ho hd hcd hmg hobj hints hlen hg
  have inK := hY w _ Y
  obtain ⟨fd, cT, PT, ht, tk, hb, hF⟩ := F w mg fa _ inK G.T.g hmg
  obtain ⟨code, tab⟩ := PySem.W.tab_of G.T inK hrec ht
  have sy : ∃ mm, s₁.heap.Ns sysModules mm := by
    obtain ⟨mm, h1, _⟩ := (G.T.seer him).mods
    exact ⟨mm, h1⟩
  exact law_callT inK G.T.g G.T.b G.T.builtins sy G.T.nolimit hg tab tk code G.T.bmain hobj hints (Nat.le_trans hlen hn2) hr hF hb (fun H hP hS => hsp w H PT a ns hlen hP hS) fun H e s' => hCX w H s₁ e s'
end OC

set_option Elab.async false
set_option linter.all false
set_option maxRecDepth 100000
set_option maxHeartbeats 4000000
/-! a def whose code object is known -/
namespace OC
open PySem PySem.Spec PyProof.Rows L2 LamX
/-- a def by name, its code object at c -/
structure DfC (K : PySem.W.Frag) (mg : Str → Option Value) (x : Str) (st : Stmt) (ps : List Str) (c : Addr) : Prop where
  ex : ∃ (f : Addr) (oc : Value) (od an : Option Addr) (kV doc pm ct : Value) (osl : Array (Option Value)),
    K.lookup f = some ⟨oc, od, .func (PySem.W.fnOf x x (defArgs st) (defBody st) (defScope st) .none kV doc pm an (.ref c) ct), osl⟩ ∧ PySem.W.codeIn K (.ref c) x = true ∧ PySem.W.keepIn K (.ref f) = true ∧ mg x = some (.ref f) ∧
    Binds K (PySem.W.fnOf x x (defArgs st) (defBody st) (defScope st) .none kV doc pm an (.ref c) ct) ps []
section
variable {P : Program} {w : World} {K : PySem.W.Frag} {mg : Str → Option Value} {base : Heap}
theorem DfC.ok {x : Str} {st : Stmt} {N ps : List Str} {k : Nat} {c : Addr} {sp : Sp} (D : DfC K mg x st ps c) (S : FnScope N ps (defScope st)) (len : ∀ vs H Q E, sp vs H Q E → vs.length = ps.length)
    (hbody : ∀ (f : Addr) (A : Around) (outer : List Env) (s : Shared) (H : Hp) (vs : List V) (Q : VK) (E : XK), Room k (A.deeper (envOfC x (defScope st) s.heap.objs.size f (.ref c))) → sp vs H Q E →
      ∃ t, PSs (cxOf CX0 P w K mg base N x (defScope st) f (.ref c) A outer s H E).nox (defBody st) t ∧ t { nx := fun _ H' => Q .non H', rt := Q } (start N vs) H) : Ok P w K mg base (k + 1) x ps sp := by
  obtain ⟨f, oc, od, an, kV, doc, pm, ct, osl, lk, hc, hk, hm, hb⟩ := D.ex
  refine ⟨f, _, fn_of (CX := CX0) lk hc S len fun A outer s H vs Q E hr hsp => ?_, hm, hk, hb⟩
  obtain ⟨t, ht, hq⟩ := hbody f A outer s H vs Q E hr hsp
  exact ⟨t, ht.nox, hq⟩
theorem dfC_of {h : Heap} {x : Str} {st : Stmt} {ps : List Str} {f c PT : Addr} {oc : Value} {od an : Option Addr} {osl : Array (Option Value)} {kV doc pm cdv ct : Value} (X : K.In h) (G : h.Ns mainGlobals mg) (a : PySem.W.nsIn K mainGlobals x = some (some (.ref f)))
    (l : K.lookup f = some ⟨oc, od, .func (PySem.W.fnOf x x (defArgs st) (defBody st) (defScope st) .none kV doc pm an cdv ct), osl⟩) (hc : PySem.W.codeIn K cdv x = true) (hk : PySem.W.keepIn K (.ref f) = true) (ht : PySem.W.tabIn K x = some (c, PT))
    (hb : ∀ (kV doc pm : Value) (an : Option Addr) (cdv ct : Value) (us : List Value), us.length = ps.length → bindArgs (PySem.W.fnOf x x (defArgs st) (defBody st) (defScope st) .none kV doc pm an cdv ct) ⟨us, []⟩ = pure (ps.zip us)) : DfC K mg x st ps c := by
  have ec : cdv = .ref c := by
    unfold PySem.W.tabIn at ht
    rw [a] at ht
    dsimp only at ht
    rw [l] at ht
    dsimp only at ht
    cases cdv with
    | ref c' =>
      dsimp only at ht
      split at ht
      · split at ht
        · rw [(Prod.mk.inj (Option.some.inj ht)).1]
        · cases ht
      · cases ht
    | _ => cases ht
  subst ec
  exact ⟨f, oc, od, an, kV, doc, pm, ct, osl, l, hc, hk, PySem.W.mg_of X G a, .all (hb kV doc pm an _ ct)⟩
end
theorem tab_mk {K : PySem.W.Frag} {x : Str} {f c PT : Addr} {oc ocT : Value} {od odT : Option Addr} {osl slT : Array (Option Value)} {fd : FuncData} {cd : Value} {vsT : Array Value} (a : PySem.W.nsIn K mainGlobals x = some (some (.ref f))) (l : K.lookup f = some ⟨oc, od, .func fd, osl⟩) (e : fd.code = cd) (hcd : cd = .ref c)
    (lT : K.lookup c = some ⟨ocT, odT, .fields vsT, slT⟩) (h11 : vsT[11]? = some (.ref PT)) : PySem.W.tabIn K x = some (c, PT) := by
  unfold PySem.W.tabIn
  rw [a]
  dsimp only
  rw [l]
  dsimp only
  rw [e, hcd]
  dsimp only
  rw [lT]
  dsimp only
  rw [h11]
end OC

set_option Elab.async false
set_option linter.all false
set_option maxRecDepth 100000
set_option maxHeartbeats 2000000
/-! classes of errors of one's own, by name; a caught one asked after; a def that catches what a lambda raises -/
namespace OC
open PySem PySem.Spec PyProof.Rows L2
/-- where the class of this name stands -/
def adr (mg : Str → Option Value) (x : Str) : Addr := match mg x with | some (.ref a) => a | _ => 0
theorem adr_of {mg : Str → Option Value} {x : Str} {C : Addr} (h : mg x = some (.ref C)) : adr mg x = C := by
  unfold adr
  rw [h]
structure ErrC (K : PySem.W.Frag) (mg : Str → Option Value) (x : Str) : Prop where
  g : mg x = some (.ref (adr mg x))
  kp : PySem.W.keepIn K (.ref (adr mg x)) = true
  b : PySem.W.subIn K (.ref (adr mg x)) (.type "BaseException") = some true
  t : PySem.W.typeIn K (.ref (adr mg x)) = some (.type "type")
  d : PySem.W.hasDictIn K (adr mg x) = true
  c : ExcC K (adr mg x)
theorem err_of {K : PySem.W.Frag} {h : Heap} {mg : Str → Option Value} {x : Str} {C : Addr} (X : K.In h) (G : h.Ns mainGlobals mg) (a : PySem.W.nsIn K mainGlobals x = some (some (.ref C)))
    (kp : PySem.W.keepIn K (.ref C) = true) (b : PySem.W.subIn K (.ref C) (.type "BaseException") = some true) (t : PySem.W.typeIn K (.ref C) = some (.type "type")) (d : PySem.W.hasDictIn K C = true)
    (hg : PySem.W.findIn K (.ref C) "__getattribute__" = some (some (.builtin "BaseException.__getattribute__"))) (hk : PySem.W.findIn K (.ref C) "__getattr__" = some none) (ha : PySem.W.findIn K (.ref C) "__class__" = some (some (.builtin "object.__class__")))
    (hm : PySem.W.mroIn K C (.type "object") = some true) (hn : PySem.W.specialIn K (.builtin "object.__class__") "__get__" = some (some (.builtin "getset_descriptor.__get__"))) (ht : PySem.W.takesIn K (.builtin "object.__class__") = some true) : ErrC K mg x := by
  have g := PySem.W.mg_of X G a
  have e := adr_of g
  refine ⟨by rw [e]; exact g, ?_, ?_, ?_, ?_, ?_⟩ <;> rw [e]
  · exact kp
  · exact b
  · exact t
  · exact d
  · exact ⟨hg, hk, b, d, ha, hn, ht, hm⟩
section
variable {K : PySem.W.Frag} {mg : Str → Option Value} {x y : Str}
theorem ErrC.exm (E : ErrC K mg y) {b : Bool} (h : PySem.W.subIn K (.ref (adr mg x)) (.ref (adr mg y)) = some b) : PySem.W.exmOne K (.ref (adr mg x)) (.ref (adr mg y)) = some b :=
  PySem.W.exm_ref E.b E.d E.t h
theorem kit_cls1 {t : Value} (E : ErrC K mg y) {b : Bool} (h : PySem.W.subIn K t (.ref (adr mg y)) = some b) (hb : t = .ref (adr mg y) → b = true) : PySem.W.kitOne K t (.ref (adr mg y)) = some b := by
  obtain ⟨cd, hc, _⟩ := PySem.W.any_some E.d
  have e2 : ((PySem.W.clsIn K (adr mg y)).isSome && PySem.W.typeIn K (.ref (adr mg y)) == some (.type "type")) = true := by rw [hc, E.t] <;> rfl
  unfold PySem.W.kitOne
  by_cases ht : t = .ref (adr mg y)
  · rw [hb ht, ht, if_pos (beq_self_eq_true _)]
  · rw [if_neg (fun z => ht (eq_of_beq z))]
    show (if _ then PySem.W.subIn K t (.ref (adr mg y)) else none) = some b
    rw [if_pos e2]
    exact h
/-- of one class another, an own one -/
theorem kit_own (E : ErrC K mg y) {b : Bool} (h : PySem.W.subIn K (.ref (adr mg x)) (.ref (adr mg y)) = some b) (hb : adr mg x = adr mg y → b = true) : PySem.W.kitOne K (.ref (adr mg x)) (.ref (adr mg y)) = some b :=
  kit_cls1 E h fun z => hb (Value.ref.inj z)
theorem kit_self {a : Addr} : PySem.W.kitOne K (.ref a) (.ref a) = some true := by
  unfold PySem.W.kitOne
  rw [if_pos (beq_self_eq_true _)]
/-- of one class a built-in one -/
theorem kit_blt {a : Addr} {T : String} {b : Bool} (hT : PySem.W.kitMeta T = true) (h : PySem.W.subIn K (.ref a) (.type T) = some b) : PySem.W.kitOne K (.ref a) (.type T) = some b := by
  unfold PySem.W.kitOne
  rw [if_neg (fun z => by cases eq_of_beq z)]
  show (if PySem.W.kitMeta T = true then PySem.W.subIn K (.ref a) (.type T) else none) = some b
  rw [if_pos hT]
  exact h
/-- apart where one is none of the other -/
theorem adr_ne {K : PySem.W.Frag} {a b : Addr} (h1 : PySem.W.subIn K (.ref a) (.ref b) = some false) (h2 : PySem.W.subIn K (.ref b) (.ref b) = some true) : a ≠ b := fun z => by
  rw [z, h2] at h1
  cases h1
end
/-- isinstance(e, (c1, c2, ..)), e the exception that the suite holds -/
def rIsET (K : PySem.W.Frag) (D a : Addr) : List V → Hp → VK → Prop := fun xs H Q => ∃ (tp : Addr) (cs : List V) (us : List Value) (b : Bool), xs = [.ref a, .ref tp] ∧ H tp = some (.tup cs) ∧ Paired ClsV cs us ∧ PySem.W.kitAny K (.ref D) us = some b ∧ Q (.bl b) H
theorem call_isET {X : Cx} {a D : Addr} {oe : Obj} {pn : List (Addr × Obj)} (C : ExcC X.K D) (hz : Zc (.ref D) none oe) (hf : ∃ vs, oe.data = .fields vs) : CallR (X.suite a ((a, oe) :: pn)) (.builtin "isinstance") (rIsET X.K D a) := by
  intro pins s σ H xs us Q I r h
  obtain ⟨tp, cs, ws, b, rfl, hT, k, e, q⟩ := h
  obtain ⟨u1, u2, rfl, r1, r2⟩ := vals2 r
  cases (show u2 = Value.ref tp from r2)
  cases (show u1 = Value.ref a from r1)
  obtain ⟨hget, _⟩ := I.pin (a, oe) (List.mem_append.mpr (.inl List.mem_cons_self))
  obtain ⟨vs, hv⟩ := hf
  have J : PySem.W.InstAt s.heap a oe D none := by
    obtain ⟨oc, od, oda, osl⟩ := oe
    obtain ⟨h1, h2⟩ := hz
    dsimp only at h1 h2 hv
    subst h1 h2 hv
    exact ⟨hget, rfl, rfl, trivial⟩
  obtain ⟨_, its, rv, o, h1, h2, n, h3⟩ := (show ObjOk X.prog X.w H s.heap tp (.tup cs) from I.hok tp _ hT)
  have e3 := ClsV.all k rv
  subst e3
  obtain ⟨oc, od, dt, sl⟩ := o
  simp only at h2 h3
  subst h2 h3
  exact PySem.W.kia_tup (PySem.W.handS_kitx_exc C.hg C.hk C.hs C.hd C.ha C.hn C.ht C.hm) I.kIn J h1 e (fun z => nomatch z) fun tk => ⟨.bl b, H, I.kept (t' := tk) fun _ _ z => z, rfl, q⟩
/-- a reading under what it leans on -/
theorem pss_pre {X : Cx} {b : List Stmt} {p : Prop} {t : TS} (h : p → PSs X b t) : PSs X b (fun D σ H => p ∧ t D σ H) := ⟨fun pins s σ H D I ⟨hp, ht⟩ => (h hp).run pins s σ H D I ht⟩
end OC
namespace OC
open PySem PySem.Spec PyProof.Rows L2 LamX
/-- x(lambda: body), x told by name -/
theorem pe_lamD {X : Cx} {T : List (Addr × Str)} {TT : (XK → Hp → VK → Prop) → Hp → VK → Prop} {x a : Str} {st : Stmt} {c P : Addr} {k : Nat} {Ng : List Str} {params : Arguments} {body : Expr} {scope : Scope} {t : XK → TE} {p lpos pos : Pos}
    (D : Df X.K X.mg x st [a]) (Sg : FnScope Ng [a] (defScope st)) (hNg : Ng[0]? = some a) (hva : Vis (defScope st) a) (hg : Gl X x) (hG : ∀ (g : Addr) (cdv : Value), GivesTo X Ng x (defScope st) g cdv (defBody st) a (X.env.qual ++ "<lambda>") TT)
    (TB : TabB X.base X.mg c P) (hcode : X.env.code = .ref c) (hmT : (P, X.env.qual ++ "<lambda>") ∈ T) (hu : ∀ p ∈ T, p.1 = P → p.2 = X.env.qual ++ "<lambda>") (hr : Room (k + 2) X.A) (L : LamS X.env.scope scope) (hdef : defaultsOf params X.env = ([], []))
    (hbind : ∀ (q : Str) (cl : List (Str × Addr)) (pm cv ctv : Value), bindArgs (PySem.W.kla_fn "<lambda>" q params body scope cl pm cv ctv) ⟨[], []⟩ = pure [])
    (hbody : ∀ (A : Around) (outer : List Env) (s : Shared) (H : Hp) (E : XK) (f c' : Addr), Room k (A.deeper (lamEnv X scope s.heap.objs.size f c')) → PE (lamCx X A outer s H E scope f c') body (t E))
    (hdb : (x == ("__debug__" : Str)) = false := by decide) (hd : (a == ("__debug__" : Str)) = false := by decide) (hcd : (a == ("__classdict__" : Str)) = false := by decide) :
    PE X (.Call (.Name x p) [.Lambda params body scope lpos] [] pos) (tLam T TT t) := by
  obtain ⟨g, fd, F, b, hm⟩ := D.ex
  obtain ⟨⟨oc, od, kV, doc, pm, an, cdv, ct, osl, rfl, lk, hc⟩, hk⟩ := F
  exact pe_lamcall hg hm hk lk hc b Sg hNg hva (hG g cdv) TB hcode hmT hu hr L hdef hbind hbody hdb hd hcd
section
variable {P : Program} {w : World} {K : PySem.W.Frag} {mg : Str → Option Value} {base : Heap}
/-- as DfC.ok, while no repr is under way -/
theorem DfC.okG {x : Str} {st : Stmt} {N ps : List Str} {k : Nat} {c : Addr} {sp : Sp} (D : DfC K mg x st ps c) (S : FnScope N ps (defScope st)) (len : ∀ vs H Q E, sp vs H Q E → vs.length = ps.length)
    (hbody : ∀ (f : Addr) (A : Around) (outer : List Env) (s : Shared) (H : Hp) (vs : List V) (Q : VK) (E : XK), Room k (A.deeper (envOfC x (defScope st) s.heap.objs.size f (.ref c))) → A.guards = some [] → sp vs H Q E →
      ∃ t, PSs (cxOf CX0 P w K mg base N x (defScope st) f (.ref c) A outer s H E).nox (defBody st) t ∧ t { nx := fun _ H' => Q .non H', rt := Q } (start N vs) H) : OkG P w K mg base (k + 1) x ps sp := by
  obtain ⟨f, oc, od, an, kV, doc, pm, ct, osl, lk, hc, hk, hm, hb⟩ := D.ex
  refine ⟨f, _, fnG_of (CX := CX0) lk hc S len fun A outer s H vs Q E hr hgd hsp => ?_, hm, hk, hb⟩
  obtain ⟨t, ht, hq⟩ := hbody f A outer s H vs Q E hr hgd hsp
  exact ⟨t, ht.nox, hq⟩
end
end OC

set_option Elab.async false
set_option linter.all false
set_option maxRecDepth 100000
set_option maxHeartbeats 2000000
/-! zip of three tuples -/
namespace OC
open PySem PySem.Spec PyProof.Rows L2
/-- the tuples at a, b, c as they stand at each turn, the items in new triples -/
def Itz3 (K : PySem.W.Frag) (a b c : Addr) : It :=
  ⟨fun i H => ∃ (xs ys zs : List V) (x y z : V), SqT K H a xs ∧ SqT K H b ys ∧ SqT K H c zs ∧ xs[i]? = some x ∧ ys[i]? = some y ∧ zs[i]? = some z,
    fun i H v H' => ∃ T x y z, v = .ref T ∧ H T = none ∧ H' = upd H T (.tup [x, y, z]) ∧ (∀ xs, SqT K H a xs → xs[i]? = some x) ∧ (∀ ys, SqT K H b ys → ys[i]? = some y) ∧ ∀ zs, SqT K H c zs → zs[i]? = some z,
    fun i H => ∃ xs ys zs : List V, SqT K H a xs ∧ SqT K H b ys ∧ SqT K H c zs ∧ i ≤ xs.length ∧ i ≤ ys.length ∧ i ≤ zs.length ∧ (i = xs.length ∨ i = ys.length ∨ i = zs.length)⟩
theorem turn_zip3 {P : Program} {w : World} {K : PySem.W.Frag} {elts : List Expr} {kk : Nat} {tpos : Pos} {a b c z TI TO i1 i2 i3 : Addr} (D : ZipSep3 z TI TO i1 i2 i3 [i1, a] [i2, b] [i3, c]) (d1 : i1 ≠ a) (d2 : i2 ≠ b) (d3 : i3 ≠ c) :
    Turn P w K (.Tuple elts kk tpos) (Itz3 K a b c) [z, TI, TO, i1, i2, i3] z (fun i h => IsZip h z TI TO .none ∧ IsTupOf3 h TI (.ref i1) (.ref i2) (.ref i3) ∧ (∃ x y u, IsTupOf3 h TO x y u) ∧ h.IsTupleIter i1 a i ∧ h.IsTupleIter i2 b i ∧ h.IsTupleIter i3 c i) where
  mem := by simp
  obj := fun i h st y hy => by
    obtain ⟨hz, hTI, ⟨_, _, _, hTO⟩, ⟨o1, e1, _, q1⟩, ⟨o2, e2, _, q2⟩, ⟨o3, e3, _, q3⟩⟩ := st
    have e' : y = z ∨ y = TI ∨ y = TO ∨ y = i1 ∨ y = i2 ∨ y = i3 := by simpa using hy
    rcases e' with q | q | q | q | q | q
    · rw [q]; exact ⟨_, hz, fun v q => nomatch q⟩
    · rw [q]; exact ⟨_, hTI, fun v q => nomatch q⟩
    · rw [q]; exact ⟨_, hTO, fun v q => nomatch q⟩
    · rw [q]; exact ⟨o1, e1, fun v q => by rw [q1] at q; cases q⟩
    · rw [q]; exact ⟨o2, e2, fun v q => by rw [q2] at q; cases q⟩
    · rw [q]; exact ⟨o3, e3, fun v q => by rw [q3] at q; cases q⟩
  keep := fun i h h' st k => by
    obtain ⟨hz, hTI, ⟨x, y, u, hTO⟩, h1, h2, h3⟩ := st
    exact ⟨k z (by simp) _ hz, k TI (by simp) _ hTI, ⟨x, y, u, k TO (by simp) _ hTO⟩, h1.at fun o q => k i1 (by simp) o q, h2.at fun o q => k i2 (by simp) o q, h3.at fun o q => k i3 (by simp) o q⟩
  item := by
    intro X hP hw hK hc i pins s σ H E I hf st hg
    subst hP hw hK
    obtain ⟨hz, hTI, ⟨x0, y0, u0, hTO⟩, h1, h2, h3⟩ := st
    obtain ⟨xs, ys, zs, x, y, u, hqx, hqy, hqz, hx, hy, hu⟩ := hg
    obtain ⟨its, rv, p, _⟩ := I.tuple hqx
    obtain ⟨its2, rv2, p2, _⟩ := I.tuple hqy
    obtain ⟨its3, rv3, p3, _⟩ := I.tuple hqz
    obtain ⟨v1, hv1, r1⟩ := rv.get hx
    obtain ⟨v2, hv2, r2⟩ := rv2.get hy
    obtain ⟨v3, hv3, r3⟩ := rv3.get hu
    have hzl : z < s.heap.objs.size := Heap.lt_size hz
    have hh : X.A.in1.handled = none := I.ok.hd hc
    refine wpAny_pyNext_zipD3_item D (Draws.tuple hh i1 a (Ne.symm d1) its.toArray) (Draws.tuple hh i2 b (Ne.symm d2) its2.toArray) (Draws.tuple hh i3 c (Ne.symm d3) its3.toArray) hz hTI hTO ⟨h1, p⟩ ⟨h2, p2⟩ ⟨h3, p3⟩ ?_ ?_ ?_ fun x1 x2 x3 h' tk y1 y2 y3 z' TO' st1' st2' st3' hT hsz hk => ?_
    · have := (List.getElem?_eq_some_iff.mp hv1).1
      simpa using this
    · have := (List.getElem?_eq_some_iff.mp hv2).1
      simpa using this
    · have := (List.getElem?_eq_some_iff.mp hv3).1
      simpa using this
    have e1 : x1 = v1 := by
      have : its[i]? = some x1 := by simpa using y1
      rw [hv1] at this
      exact (Option.some.inj this).symm
    have e2 : x2 = v2 := by
      have : its2[i]? = some x2 := by simpa using y2
      rw [hv2] at this
      exact (Option.some.inj this).symm
    have e3 : x3 = v3 := by
      have : its3[i]? = some x3 := by simpa using y3
      rw [hv3] at this
      exact (Option.some.inj this).symm
    subst e1 e2 e3
    refine ⟨_, rfl, wpAny_letOwnedTupleGo_zip (s := { s with heap := h', toks := tk }) z' fun h'' z'' sb => ?_⟩
    have hT2 : h''.get? s.heap.objs.size = some { cls := .type "tuple", data := .seq #[x1, x2, x3] } := (sb.2 _ (Nat.ne_of_gt hzl)).trans hT
    have new : ObjOk X.prog X.w (upd H s.heap.objs.size (.tup [x, y, u])) h'' s.heap.objs.size (.tup [x, y, u]) :=
      ⟨by show 3 ≤ sizeLine; decide, [x1, x2, x3], .cons r1 (.cons r2 (.cons r3 .nil)), ⟨_, hT2, rfl, _, rfl⟩⟩
    have I1 : Inv X pins σ (upd H s.heap.objs.size (.tup [x, y, u])) { s with heap := h'', toks := tk } :=
      I.turnedNew (t' := tk) (ch := [z, TI, TO, i1, i2, i3]) (fun y o hb q => (sb.2 y (fun q' => hb (by simp [q']))).trans (hk y o (fun q' => hb (by simp [q'])) (fun q' => hb (by simp [q'])) (fun q' => hb (by simp [q'])) (fun q' => hb (by simp [q'])) (fun q' => hb (by simp [q'])) q)) hf (Nat.le_refl _) new
    refine ⟨.ref s.heap.objs.size, _, I1, rfl, ⟨_, x, y, u, rfl, I.hok.fresh (Nat.le_refl _), rfl, fun l hl => by rw [I.tuple_inj hl hqx]; exact hx, fun l hl => by rw [I.tuple_inj hl hqy]; exact hy, fun l hl => by rw [I.tuple_inj hl hqz]; exact hu⟩, ⟨z'', ?_, ⟨x1, x2, x3, ?_⟩, ?_, ?_, ?_⟩, fun c' hcm => ?_⟩
    · exact (sb.2 _ D.TIz).trans (hk _ _ D.TIz D.TITO D.TIi1 D.TIi2 D.TIi3 hTI)
    · exact (sb.2 _ D.TOz).trans TO'
    · exact st1'.1.at fun o q => (sb.2 _ (Ne.symm D.zi1)).trans q
    · exact st2'.1.at fun o q => (sb.2 _ (Ne.symm D.zi2)).trans q
    · exact st3'.1.at fun o q => (sb.2 _ (Ne.symm D.zi3)).trans q
    · have hlt : c' < s.heap.objs.size := by
        have e' : c' = z ∨ c' = TI ∨ c' = TO ∨ c' = i1 ∨ c' = i2 ∨ c' = i3 := by simpa using hcm
        rcases e' with q | q | q | q | q | q
        · rw [q]; exact hzl
        · rw [q]; exact Heap.lt_size hTI
        · rw [q]; exact Heap.lt_size hTO
        · rw [q]; obtain ⟨_, e1, _⟩ := h1; exact Heap.lt_size e1
        · rw [q]; obtain ⟨_, e2, _⟩ := h2; exact Heap.lt_size e2
        · rw [q]; obtain ⟨_, e3, _⟩ := h3; exact Heap.lt_size e3
      rw [upd_ne (Nat.ne_of_lt hlt)]
      exact (hf c' hcm).1
  done := by
    intro X hP hw hK hc i pins s σ H E I hf st hg
    subst hP hw hK
    obtain ⟨hz, hTI, ⟨x0, y0, u0, hTO⟩, h1, h2, h3⟩ := st
    obtain ⟨xs, ys, zs, hqx, hqy, hqz, le1, le2, le3, hend⟩ := hg
    obtain ⟨its, rv, p, _⟩ := I.tuple hqx
    obtain ⟨its2, rv2, p2, _⟩ := I.tuple hqy
    obtain ⟨its3, rv3, p3, _⟩ := I.tuple hqz
    have l1 := rv.length
    have l2 := rv2.length
    have l3 := rv3.length
    have hh : X.A.in1.handled = none := I.ok.hd hc
    have sz1 : its.toArray.size = its.length := by simp
    have sz2 : its2.toArray.size = its2.length := by simp
    have sz3 : its3.toArray.size = its3.length := by simp
    exact wpAny_pyNext_zipD3_end D (Draws.tuple hh i1 a (Ne.symm d1) its.toArray) (Draws.tuple hh i2 b (Ne.symm d2) its2.toArray) (Draws.tuple hh i3 c (Ne.symm d3) its3.toArray) hz hTI hTO ⟨h1, p⟩ ⟨h2, p2⟩ ⟨h3, p3⟩ (by omega) (by omega) (by omega) (by omega) fun h' tk hk => ⟨rfl, I.turnedL (t' := tk) (ch := [z, TI, TO, i1, i2, i3]) (fun y o hb q =>
      hk y o (fun q' => hb (by simp [q'])) (fun q' => hb (by simp [q'])) (fun q' => hb (by simp [q'])) (fun q' => hb (by simp [q'])) (fun q' => hb (by simp [q'])) q) hf⟩
  self := fun A i s Q E st h => wpAny_pyIter_zip st.1 h
/-- zip of three tuples -/
def iZip3 (K : PySem.W.Frag) (ta : TA) : TI := fun σ H R => ta σ H fun vs H1 => ∃ a b c xs ys zs, vs = [.ref a, .ref b, .ref c] ∧ SqT K H1 a xs ∧ SqT K H1 b ys ∧ SqT K H1 c zs ∧ R (Itz3 K a b c) H1
theorem pi_zip3 {X : Cx} {e e2 e3 : Expr} {ta : TA} {p pos tpos : Pos} {elts : List Expr} {kk : Nat} (hg : Gl X "zip") (hm : X.mg "zip" = none) (ha : PA X [e, e2, e3] ta)
    (hs : starEach [e, e2, e3] X.env = (false, eval e X.env) :: starEach [e2, e3] X.env := by rfl) (hpl : (backTo pos (starEach [e2, e3] X.env)).any (·.1) = false := by rfl) :
    PI X (.Tuple elts kk tpos) (.Call (.Name "zip" p) [e, e2, e3] [] pos) (iZip3 X.K ta) := by
  refine ⟨fun pins s σ H R I h => ?_⟩
  refine Call_ (ld_blt I hg hm PyProof.Rows.boot_zip (PyProof.Rows.callWith_type1 (thn (ha.run pos pins s σ H _ I h) fun us s1 ⟨vs, H1, I1, r1, q1⟩ => ?_) hs hpl))
  obtain ⟨a, b, c, xs, ys, zs, ex, hqx, hqy, hqz, q⟩ := q1
  subst ex
  rcases r1 with _ | ⟨r, _ | ⟨r', _ | ⟨r'', _ | _⟩⟩⟩
  cases r
  cases r'
  cases r''
  have fresh6 : ∀ y, y ∈ [s1.heap.objs.size + 5, s1.heap.objs.size + 3, s1.heap.objs.size + 4, s1.heap.objs.size, s1.heap.objs.size + 1, s1.heap.objs.size + 2] → FpOk X pins H1 y := fun y hcm => by
    have hle : s1.heap.objs.size ≤ y := by
      have e' : y = s1.heap.objs.size + 5 ∨ y = s1.heap.objs.size + 3 ∨ y = s1.heap.objs.size + 4 ∨ y = s1.heap.objs.size ∨ y = s1.heap.objs.size + 1 ∨ y = s1.heap.objs.size + 2 := by simpa using hcm
      rcases e' with z | z | z | z | z | z
      · rw [z]; exact Nat.le_add_right _ _
      · rw [z]; exact Nat.le_add_right _ _
      · rw [z]; exact Nat.le_add_right _ _
      · rw [z]; exact Nat.le_refl _
      · rw [z]; exact Nat.le_add_right _ _
      · rw [z]; exact Nat.le_add_right _ _
    exact I1.fpOk hle (I1.hok.fresh hle)
  obtain ⟨its, rv, p1, _⟩ := I1.tuple hqx
  obtain ⟨its2, rv2, p2, _⟩ := I1.tuple hqy
  obtain ⟨its3, rv3, p3, _⟩ := I1.tuple hqz
  obtain ⟨o1, ho1, _⟩ := id p1
  obtain ⟨o2, ho2, _⟩ := id p2
  obtain ⟨o3, ho3, _⟩ := id p3
  have lt1 := Heap.lt_size ho1
  have lt2 := Heap.lt_size ho2
  have lt3 := Heap.lt_size ho3
  refine zip_begins3 (begins_tuple a its.toArray) (begins_tuple b its2.toArray) (begins_tuple c its3.toArray) (show s1.heap.IsTuple a its.toArray from p1) (show s1.heap.IsTuple b its2.toArray from p2) (show s1.heap.IsTuple c its3.toArray from p3) fun h' hz hTI hTO h1 h2 h3 hsz hk => wpAny_pyIter_zip hz ?_
  have I2 : Inv X pins σ H1 { s1 with heap := h' } := I1.kept (t' := s1.toks) hk
  have sep := zip_sep3 (N := s1.heap.objs.size) (fp1 := [a]) (fp2 := [b]) (fp3 := [c]) (fun y hy => by rw [List.mem_singleton.mp hy]; exact lt1) (fun y hy => by rw [List.mem_singleton.mp hy]; exact lt2) (fun y hy => by rw [List.mem_singleton.mp hy]; exact lt3)
  exact ⟨s1.heap.objs.size + 5, [s1.heap.objs.size + 5, s1.heap.objs.size + 3, s1.heap.objs.size + 4, s1.heap.objs.size, s1.heap.objs.size + 1, s1.heap.objs.size + 2], _, _, H1, rfl, I2, turn_zip3 sep (Nat.ne_of_gt lt1) (Nat.ne_of_gt (Nat.lt_succ_of_lt lt2)) (Nat.ne_of_gt (Nat.lt_succ_of_lt (Nat.lt_succ_of_lt lt3))), ⟨hz, hTI, ⟨_, _, _, hTO⟩, ⟨_, h1, rfl, rfl⟩, ⟨_, h2, rfl, rfl⟩, ⟨_, h3, rfl, rfl⟩⟩, fresh6, q⟩
/-- a triple of the turn's items -/
def Y3 (f g h : Nat → Option V) : Nat → Hp → V → Hp → Prop := fun i H v H' => ∃ T x y z, v = .ref T ∧ H T = none ∧ H' = upd H T (.tup [x, y, z]) ∧ f i = some x ∧ g i = some y ∧ h i = some z
theorem walk_zip3 {K : PySem.W.Frag} {a b c : Addr} {xs ys zs : List V} {n : Nat} (h1 : xs.length = n) (h2 : ys.length = n) (h3 : zs.length = n) : Walk (Itz3 K a b c) n (fun H => SqT K H a xs ∧ SqT K H b ys ∧ SqT K H c zs) (Y3 (fun i => xs[i]?) (fun i => ys[i]?) (fun i => zs[i]?)) where
  goes i H hi q := ⟨xs, ys, zs, _, _, _, q.1, q.2.1, q.2.2, List.getElem?_eq_getElem (by omega), List.getElem?_eq_getElem (by omega), List.getElem?_eq_getElem (by omega)⟩
  stops H q := ⟨xs, ys, zs, q.1, q.2.1, q.2.2, by omega, by omega, by omega, by omega⟩
  yields i H v H' _ q y := by
    obtain ⟨T, x, z, u, ev, nT, eH, gx, gz, gu⟩ := y
    exact ⟨T, x, z, u, ev, nT, eH, gx xs q.1, gz ys q.2.1, gu zs q.2.2⟩
end OC

set_option Elab.async false
set_option linter.all false
set_option maxRecDepth 100000
set_option maxHeartbeats 4000000
namespace OC
open PySem PySem.Spec PyProof.Rows L2
def topS (i : Nat) : Stmt := PySem.Challenge.pw_opencalls_k60_worlds_with_rests.main.body.getD i (.Pass ⟨0, 0, 0, 0⟩)
abbrev s_contrary : Stmt := topS 7
abbrev N_contrary : List Str := ["p", "a", "b"]
theorem sc_contrary : FnScope N_contrary ["p", "a"] (defScope s_contrary) := ⟨rfl, rfl, rfl, by decide +kernel, rfl, by decide +kernel, by decide +kernel⟩
abbrev s_added : Stmt := topS 9
abbrev N_added : List Str := ["p", "one", "other", "a", "b"]
theorem sc_added : FnScope N_added ["p", "one", "other"] (defScope s_added) := ⟨rfl, rfl, rfl, by decide +kernel, rfl, by decide +kernel, by decide +kernel⟩
abbrev s_times : Stmt := topS 10
abbrev N_times : List Str := ["p", "a", "row", "rest"]
theorem sc_times : FnScope N_times ["p", "a", "row"] (defScope s_times) := ⟨rfl, rfl, rfl, by decide +kernel, rfl, by decide +kernel, by decide +kernel⟩
abbrev s_worth : Stmt := topS 11
abbrev N_worth : List Str := ["p", "row", "world", "a", "b"]
theorem sc_worth : FnScope N_worth ["p", "row", "world"] (defScope s_worth) := ⟨rfl, rfl, rfl, by decide +kernel, rfl, by decide +kernel, by decide +kernel⟩
abbrev s_first_place : Stmt := topS 13
abbrev N_first_place : List Str := ["row", "at", "rest"]
theorem sc_first_place : FnScope N_first_place ["row"] (defScope s_first_place) := ⟨rfl, rfl, rfl, by decide +kernel, rfl, by decide +kernel, by decide +kernel⟩
abbrev s_cleared : Stmt := topS 14
abbrev N_cleared : List Str := ["p", "plain", "row", "factor"]
theorem sc_cleared : FnScope N_cleared ["p", "plain", "row"] (defScope s_cleared) := ⟨rfl, rfl, rfl, by decide +kernel, rfl, by decide +kernel, by decide +kernel⟩
abbrev s_left_of : Stmt := topS 15
abbrev N_left_of : List Str := ["p", "room", "row", "plain"]
theorem sc_left_of : FnScope N_left_of ["p", "room", "row"] (defScope s_left_of) := ⟨rfl, rfl, rfl, by decide +kernel, rfl, by decide +kernel, by decide +kernel⟩
abbrev s_widened : Stmt := topS 16
abbrev N_widened : List Str := ["p", "room", "row", "rest", "at", "fresh", "plain"]
theorem sc_widened : FnScope N_widened ["p", "room", "row"] (defScope s_widened) := ⟨rfl, rfl, rfl, by decide +kernel, rfl, by decide +kernel, by decide +kernel⟩
abbrev s_room_of : Stmt := topS 17
abbrev N_room_of : List Str := ["p", "n", "rows", "room", "row"]
theorem sc_room_of : FnScope N_room_of ["p", "n", "rows"] (defScope s_room_of) := ⟨rfl, rfl, rfl, by decide +kernel, rfl, by decide +kernel, by decide +kernel⟩
abbrev s_across : Stmt := topS 18
abbrev N_across : List Str := ["p", "n", "room", "plain", "firsts", "at"]
theorem sc_across : FnScope N_across ["p", "n", "room"] (defScope s_across) := ⟨rfl, rfl, rfl, by decide +kernel, rfl, by decide +kernel, by decide +kernel⟩
abbrev s_across_at : Stmt := topS 19
abbrev N_across_at : List Str := ["p", "n", "room", "at", "rests", "plain"]
theorem sc_across_at : FnScope N_across_at ["p", "n", "room", "at"] (defScope s_across_at) := ⟨rfl, rfl, rfl, by decide +kernel, rfl, by decide +kernel, by decide +kernel⟩
abbrev s_are_free : Stmt := topS 21
abbrev N_are_free : List Str := ["p", "n", "room", "rows"]
theorem sc_are_free : FnScope N_are_free ["p", "n", "room", "rows"] (defScope s_are_free) := ⟨rfl, rfl, rfl, by decide +kernel, rfl, by decide +kernel, by decide +kernel⟩
abbrev s_turns : Stmt := topS 22
abbrev N_turns : List Str := ["p", "n", "room", "rows", "at", "row"]
theorem sc_turns : FnScope N_turns ["p", "n", "room", "rows"] (defScope s_turns) := ⟨rfl, rfl, rfl, by decide +kernel, rfl, by decide +kernel, by decide +kernel⟩
abbrev s_turn_of : Stmt := topS 23
abbrev N_turn_of : List Str := ["p", "n", "others", "row", "world", "rest"]
theorem sc_turn_of : FnScope N_turn_of ["p", "n", "others", "row"] (defScope s_turn_of) := ⟨rfl, rfl, rfl, by decide +kernel, rfl, by decide +kernel, by decide +kernel⟩
abbrev s_with_rests : Stmt := topS 24
abbrev N_with_rests : List Str := ["p", "n", "room", "rows", "world", "rests", "turn", "row", "rest"]
theorem sc_with_rests : FnScope N_with_rests ["p", "n", "room", "rows", "world", "rests"] (defScope s_with_rests) := ⟨rfl, rfl, rfl, by decide +kernel, rfl, by decide +kernel, by decide +kernel⟩
abbrev s__law_draws : Stmt := topS 26
abbrev N__law_draws : List Str := ["_law_script", "_law_cells", "_law_cell"]
theorem sc__law_draws : FnScope N__law_draws ["_law_script"] (defScope s__law_draws) := ⟨rfl, rfl, rfl, by decide +kernel, rfl, by decide +kernel, by decide +kernel⟩
abbrev s__law_next : Stmt := topS 27
abbrev N__law_next : List Str := ["_law_drawn", "_law_many", "_law_cells", "_law_nth", "_law_rests", "_law_spot", "_law_digit", "_law_mixed", "_law_more"]
theorem sc__law_next : FnScope N__law_next ["_law_drawn", "_law_many"] (defScope s__law_next) := ⟨rfl, rfl, rfl, by decide +kernel, rfl, by decide +kernel, by decide +kernel⟩
abbrev s__law_row : Stmt := topS 28
abbrev N__law_row : List Str := ["_law_drawn", "_law_p", "_law_n", "_law_found", "_law_k"]
theorem sc__law_row : FnScope N__law_row ["_law_drawn", "_law_p", "_law_n"] (defScope s__law_row) := ⟨rfl, rfl, rfl, by decide +kernel, rfl, by decide +kernel, by decide +kernel⟩
abbrev s__law_plus : Stmt := topS 29
abbrev N__law_plus : List Str := ["_law_p", "_law_one", "_law_other", "_law_many", "_law_a", "_law_b"]
theorem sc__law_plus : FnScope N__law_plus ["_law_p", "_law_one", "_law_other", "_law_many"] (defScope s__law_plus) := ⟨rfl, rfl, rfl, by decide +kernel, rfl, by decide +kernel, by decide +kernel⟩
abbrev s__law_less : Stmt := topS 30
abbrev N__law_less : List Str := ["_law_p", "_law_steps_here", "_law_row_here", "_law_spot", "_law_one"]
theorem sc__law_less : FnScope N__law_less ["_law_p", "_law_steps_here", "_law_row_here"] (defScope s__law_less) := ⟨rfl, rfl, rfl, by decide +kernel, rfl, by decide +kernel, by decide +kernel⟩
abbrev s__law_steps : Stmt := topS 31
abbrev N__law_steps : List Str := ["_law_p", "_law_rows", "_law_found", "_law_row_here", "_law_spot", "_law_rest", "_law_places", "_law_b", "_law_by"]
theorem sc__law_steps : FnScope N__law_steps ["_law_p", "_law_rows"] (defScope s__law_steps) := ⟨rfl, rfl, rfl, by decide +kernel, rfl, by decide +kernel, by decide +kernel⟩
abbrev s__law_size : Stmt := topS 32
abbrev N__law_size : List Str := ["_law_p", "_law_rows"]
theorem sc__law_size : FnScope N__law_size ["_law_p", "_law_rows"] (defScope s__law_size) := ⟨rfl, rfl, rfl, by decide +kernel, rfl, by decide +kernel, by decide +kernel⟩
abbrev s__law_free : Stmt := topS 33
abbrev N__law_free : List Str := ["_law_p", "_law_room", "_law_rows"]
theorem sc__law_free : FnScope N__law_free ["_law_p", "_law_room", "_law_rows"] (defScope s__law_free) := ⟨rfl, rfl, rfl, by decide +kernel, rfl, by decide +kernel, by decide +kernel⟩
abbrev s__law_worth : Stmt := topS 34
abbrev N__law_worth : List Str := ["_law_p", "_law_row_here", "_law_world", "_law_a", "_law_b"]
theorem sc__law_worth : FnScope N__law_worth ["_law_p", "_law_row_here", "_law_world"] (defScope s__law_worth) := ⟨rfl, rfl, rfl, by decide +kernel, rfl, by decide +kernel, by decide +kernel⟩
abbrev s__law_is_row : Stmt := topS 35
abbrev N__law_is_row : List Str := ["_law_p", "_law_n", "_law_thing", "_law_rest", "_law_some"]
theorem sc__law_is_row : FnScope N__law_is_row ["_law_p", "_law_n", "_law_thing"] (defScope s__law_is_row) := ⟨rfl, rfl, rfl, by decide +kernel, rfl, by decide +kernel, by decide +kernel⟩
abbrev s__law_spread : Stmt := topS 36
abbrev N__law_spread : List Str := ["_law_drawn", "_law_p", "_law_n", "_law_k", "_law_room", "_law_rows", "_law_row_here"]
theorem sc__law_spread : FnScope N__law_spread ["_law_drawn"] (defScope s__law_spread) := ⟨rfl, rfl, rfl, by decide +kernel, rfl, by decide +kernel, by decide +kernel⟩
abbrev s__law_not_free : Stmt := topS 37
abbrev N__law_not_free : List Str := ["_law_ask", "e"]
theorem sc__law_not_free : FnScope N__law_not_free ["_law_ask"] (defScope s__law_not_free) := ⟨rfl, rfl, rfl, by decide +kernel, rfl, by decide +kernel, by decide +kernel⟩
abbrev s__law_right : Stmt := topS 38
abbrev N__law_right : List Str := ["_law_p", "_law_n", "_law_room", "_law_rows", "_law_world", "_law_rests", "_law_found", "_law_row_here"]
theorem sc__law_right : FnScope N__law_right ["_law_p", "_law_n", "_law_room", "_law_rows", "_law_world", "_law_rests"] (defScope s__law_right) := ⟨rfl, rfl, rfl, by decide +kernel, rfl, by decide +kernel, by decide +kernel⟩
abbrev s_law : Stmt := topS 39
abbrev N_law : List Str := ["_law_script", "_law_drawn", "_law_turn", "_law_p", "_law_n", "_law_room", "_law_rows", "_law_k", "_law_world", "_law_row_here", "_law_some", "_law_kept", "_law_rests"]
theorem sc_law : FnScope N_law ["_law_script"] (defScope s_law) := ⟨rfl, rfl, rfl, by decide +kernel, rfl, by decide +kernel, by decide +kernel⟩
structure Top (K : PySem.W.Frag) (mg : Str → Option Value) : Prop where
  b_bool : mg "bool" = none
  b_enumerate : mg "enumerate" = none
  b_int : mg "int" = none
  b_isinstance : mg "isinstance" = none
  b_len : mg "len" = none
  b_list : mg "list" = none
  b_max : mg "max" = none
  b_min : mg "min" = none
  b_range : mg "range" = none
  b_repr : mg "repr" = none
  b_sorted : mg "sorted" = none
  b_sum : mg "sum" = none
  b_tuple : mg "tuple" = none
  b_zip : mg "zip" = none
  b_ValueError : mg "ValueError" = none
  e_CallError : ErrC K mg "CallError"
  n_CallError : PySem.W.excIn K (adr mg "CallError") [.type "ValueError", .type "Exception", .type "BaseException", .type "object"] "ValueError.__new__" = true
  e_NoRow : ErrC K mg "NoRow"
  n_NoRow : PySem.W.excIn K (adr mg "NoRow") [.type "ValueError", .type "Exception", .type "BaseException", .type "object"] "ValueError.__new__" = true
  e_NotKnown : ErrC K mg "NotKnown"
  e_Full : ErrC K mg "Full"
  n_Full : PySem.W.excIn K (adr mg "Full") [.type "ValueError", .type "Exception", .type "BaseException", .type "object"] "ValueError.__new__" = true
  e_NotFree : ErrC K mg "NotFree"
  n_NotFree : PySem.W.excIn K (adr mg "NotFree") [.type "ValueError", .type "Exception", .type "BaseException", .type "object"] "ValueError.__new__" = true
  s_CallError_CallError : PySem.W.subIn K (.ref (adr mg "CallError")) (.ref (adr mg "CallError")) = some true
  s_NoRow_NoRow : PySem.W.subIn K (.ref (adr mg "NoRow")) (.ref (adr mg "NoRow")) = some true
  s_NotKnown_NotKnown : PySem.W.subIn K (.ref (adr mg "NotKnown")) (.ref (adr mg "NotKnown")) = some true
  s_Full_Full : PySem.W.subIn K (.ref (adr mg "Full")) (.ref (adr mg "Full")) = some true
  s_NotFree_CallError : PySem.W.subIn K (.ref (adr mg "NotFree")) (.ref (adr mg "CallError")) = some true
  s_NotFree_NoRow : PySem.W.subIn K (.ref (adr mg "NotFree")) (.ref (adr mg "NoRow")) = some false
  s_NotFree_NotKnown : PySem.W.subIn K (.ref (adr mg "NotFree")) (.ref (adr mg "NotKnown")) = some false
  s_NotFree_Full : PySem.W.subIn K (.ref (adr mg "NotFree")) (.ref (adr mg "Full")) = some false
  s_NotFree_NotFree : PySem.W.subIn K (.ref (adr mg "NotFree")) (.ref (adr mg "NotFree")) = some true
  s_NotFree_ValueError : PySem.W.subIn K (.ref (adr mg "NotFree")) (.type "ValueError") = some true
  d_contrary : Df K mg "contrary" s_contrary ["p", "a"]
  d_added : Df K mg "added" s_added ["p", "one", "other"]
  d_times : Df K mg "times" s_times ["p", "a", "row"]
  d_worth : Df K mg "worth" s_worth ["p", "row", "world"]
  d_first_place : Df K mg "first_place" s_first_place ["row"]
  d_cleared : Df K mg "cleared" s_cleared ["p", "plain", "row"]
  d_left_of : Df K mg "left_of" s_left_of ["p", "room", "row"]
  d_widened : Df K mg "widened" s_widened ["p", "room", "row"]
  d_room_of : Df K mg "room_of" s_room_of ["p", "n", "rows"]
  d_across : Df K mg "across" s_across ["p", "n", "room"]
  d_across_at : Df K mg "across_at" s_across_at ["p", "n", "room", "at"]
  d_are_free : Df K mg "are_free" s_are_free ["p", "n", "room", "rows"]
  d_turns : Df K mg "turns" s_turns ["p", "n", "room", "rows"]
  d_turn_of : Df K mg "turn_of" s_turn_of ["p", "n", "others", "row"]
  d_with_rests : Df K mg "with_rests" s_with_rests ["p", "n", "room", "rows", "world", "rests"]
  d__law_draws : Df K mg "_law_draws" s__law_draws ["_law_script"]
  d__law_next : Df K mg "_law_next" s__law_next ["_law_drawn", "_law_many"]
  d__law_row : Df K mg "_law_row" s__law_row ["_law_drawn", "_law_p", "_law_n"]
  d__law_plus : Df K mg "_law_plus" s__law_plus ["_law_p", "_law_one", "_law_other", "_law_many"]
  d__law_less : Df K mg "_law_less" s__law_less ["_law_p", "_law_steps_here", "_law_row_here"]
  d__law_steps : Df K mg "_law_steps" s__law_steps ["_law_p", "_law_rows"]
  d__law_size : Df K mg "_law_size" s__law_size ["_law_p", "_law_rows"]
  d__law_free : Df K mg "_law_free" s__law_free ["_law_p", "_law_room", "_law_rows"]
  d__law_worth : Df K mg "_law_worth" s__law_worth ["_law_p", "_law_row_here", "_law_world"]
  d__law_is_row : Df K mg "_law_is_row" s__law_is_row ["_law_p", "_law_n", "_law_thing"]
  d__law_spread : Df K mg "_law_spread" s__law_spread ["_law_drawn"]
  d__law_not_free : Df K mg "_law_not_free" s__law_not_free ["_law_ask"]
  d__law_right : Df K mg "_law_right" s__law_right ["_law_p", "_law_n", "_law_room", "_law_rows", "_law_world", "_law_rests"]
section
variable {P : Program} {w : World} {K : PySem.W.Frag} {mg : Str → Option Value} {base : Heap}
def sp_whole (K : PySem.W.Frag) : Sp := fun vs H Q _ => ∃ (v : V) (k : Kd), vs = [v] ∧ KdOf K H v k ∧ Q (.bl (decide (k = .int))) H

def sp_contr : Sp := fun vs H Q _ => ∃ p a : Int, vs = [.int p, .int a] ∧ Fld p ∧ p ≤ 1000 ∧ 1 ≤ a ∧ a < p ∧ Q (.int (ctr p a)) H
theorem ok_contrary (T : Top K mg) : Ok P w K mg base 1 "contrary" ["p", "a"] sp_contr := by
  refine T.d_contrary.ok sc_contrary (fun vs H Q E h => ?_) (fun f cdv A outer s H vs Q E hr h => ?_)
  · obtain ⟨p, a, rfl, _⟩ := h
    rfl
  · obtain ⟨p, a, rfl, hF, h2, h3, h4, q⟩ := h
    have h1 := hF.1
    refine ⟨_, ((pss_cons (ps_for PassesOwn.never (by rfl) (pi_range2 (by rfl) T.b_range (pa_cons pe_int (pa_cons (pv 0) pa_nil))) (pg_name (i := 2) sc_contrary.nd rfl (.inl rfl))
        (pss_one (ps_if (pt_cmpR op_eq (pe_op op_mod (pe_op op_mul (pv 1) (pv 2)) (pv 0)) pe_int (nomark _))
          (pss_one (ps_ret (pv 2)))
          pss_nil)))
      (pss_one (ps_ret pe_non)))), ?_⟩
    refine ⟨.int p, rfl, 1, p, rfl, ⟨by omega, by omega, by omega, by omega⟩, for_range (lo := 1) (n := (p - 1).toNat) (fun i σ H' => H' = H ∧ (∃ y, σ = [some (.int p), some (.int a), y]) ∧ ∀ b : Int, 1 ≤ b → b < 1 + i → a * b % p ≠ 1) ⟨rfl, ⟨none, rfl⟩, fun b _ _ => by omega⟩ (fun i σ H' hi hW => ?_) (fun σ H' hW => ?_)⟩
    · obtain ⟨rfl, ⟨y, rfl⟩, hn⟩ := hW
      refine ⟨.int a, rfl, .int (1 + i), rfl, a, 1 + i, rfl, rfl, .inl ⟨by omega, by omega⟩, .int p, rfl, _, p, rfl, rfl, by omega, rfl, _, rfl, ite2 (fun e => ?_) (fun e => ?_)⟩
      · have e1 : a * (1 + i) % p = 1 := V.int.inj (of_decide_eq_true e)
        refine ⟨.int (1 + i), rfl, ?_⟩
        rw [ctr_uniq hF h3 h4 (show (1 : Int) ≤ 1 + i by omega) (by omega) e1]
        exact q
      · have e1 : a * (1 + i) % p ≠ 1 := fun z => e (decide_eq_true (congrArg V.int z))
        refine ⟨rfl, ⟨_, rfl⟩, fun b hb1 hb2 => ?_⟩
        by_cases z : b = 1 + i
        · subst z; exact e1
        · exact hn b hb1 (by omega)
    · obtain ⟨rfl, ⟨y, rfl⟩, hn⟩ := hW
      obtain ⟨b, b1, b2, b3⟩ := hF.2 a h3 h4
      exact absurd b3 (hn b b1 (by omega))

def sp_added (K : PySem.W.Frag) : Sp := fun vs H Q _ => ∃ (a b : Addr) (x y : List Int) (p : Int), vs = [.int p, .ref a, .ref b] ∧ SqT K H a (x.map V.int) ∧ SqT K H b (y.map V.int) ∧ x.length ≤ 1000 ∧ 0 < p ∧
  ∀ H' l, Same H H' → H l = none → H' l = some (.tup ((addR p x y).map V.int)) → Q (.ref l) H'
theorem ok_added (T : Top K mg) : Ok P w K mg base 1 "added" ["p", "one", "other"] (sp_added K) := by
  refine T.d_added.ok sc_added (fun vs H Q E h => ?_) (fun f cdv A outer s H vs Q E hr h => ?_)
  · obtain ⟨a, b, x, y, p, rfl, _⟩ := h
    rfl
  · obtain ⟨a, b, x, y, p, rfl, hA, hB, hz, hp, q⟩ := h
    refine ⟨_, ((pss_one (ps_ret (pe_callTy call_tuple_of (by rfl) T.b_tuple (by decide +kernel) (pa_cons (pe_lc (own := [("a", 3), ("b", 4)]) (g := gTup K 2 (gCons (gName 3) (gCons (gName 4) gNil))) (by rfl) sc_added.nd (RZ.pi_zipA (by rfl) T.b_zip (pa_cons (pv 1) (pa_cons (pv 2) pa_nil))) (blkOk_by (own := [("a", 3), ("b", 4)]) (N := N_added) (sc := defScope s_added) (by decide +kernel)) (fun _ _ _ _ _ => (pg_tup (by rfl) (pgs_cons (pg_name (i := 3) sc_added.nd rfl (.inl rfl)) (pgs_cons (pg_name (i := 4) sc_added.nd rfl (.inl rfl)) pgs_nil)))) (fun _ _ _ _ _ => pts_nil) (fun _ _ _ _ _ => (pe_op op_mod (pe_op op_add (pv 3) (pv 4)) (pv 0)))) pa_nil))))), ?_⟩
    refine ⟨.ref a, rfl, .ref b, rfl, a, b, _, _, rfl, .inr ⟨hA, hB, lc_zipI (fun u v => (u + v) % p) hA hB hz (fun _ _ => rfl) (fun u v H' Q' _ _ _ hQ => ?_) (fun D H' sm nD eD => ?_)⟩⟩
    · exact ⟨.int u, rfl, .int v, rfl, u, v, rfl, rfl, .int p, rfl, _, p, rfl, rfl, hp, hQ⟩
    · refine ⟨D, _, rfl, .inl ⟨.inl (.inl eD), fun l nl => ?_⟩⟩
      exact q _ l (sm.trans (same_upd nl)) (sm.free nl) upd_same

def sp_times (K : PySem.W.Frag) : Sp := fun vs H Q _ => ∃ (b : Addr) (x : List Int) (p m : Int), vs = [.int p, .int m, .ref b] ∧ SqT K H b (x.map V.int) ∧ x.length ≤ 1000 ∧ 0 < p ∧ -1000000 ≤ m ∧ m ≤ 1000000 ∧
  ∀ H' l, Same H H' → H l = none → H' l = some (.tup ((timesR p m x).map V.int)) → Q (.ref l) H'
theorem ok_times (T : Top K mg) : Ok P w K mg base 1 "times" ["p", "a", "row"] (sp_times K) := by
  refine T.d_times.ok sc_times (fun vs H Q E h => ?_) (fun f cdv A outer s H vs Q E hr h => ?_)
  · obtain ⟨b, x, p, m, rfl, _⟩ := h
    rfl
  · obtain ⟨b, x, p, m, rfl, hB, hz, hp, hm1, hm2, q⟩ := h
    refine ⟨_, ((pss_one (ps_ret (pe_callTy call_tuple_of (by rfl) T.b_tuple (by decide +kernel) (pa_cons (pe_lc (own := [("rest", 3)]) (g := gName 3) (by rfl) sc_times.nd (pi_tup (pv 2)) (blkOk_by (own := [("rest", 3)]) (N := N_times) (sc := defScope s_times) (by decide +kernel)) (fun _ _ _ _ _ => (pg_name (i := 3) sc_times.nd rfl (.inl rfl))) (fun _ _ _ _ _ => pts_nil) (fun _ _ _ _ _ => (pe_op op_mod (pe_op op_mul (pv 1) (pv 3)) (pv 0)))) pa_nil))))), ?_⟩
    refine ⟨.ref b, rfl, b, rfl, ⟨_, hB⟩, lc_tupI (fun v => m * v % p) hB hz (fun _ => rfl) (fun v H' Q' _ _ hQ => ?_) (fun D H' sm nD eD => ?_)⟩
    · exact ⟨.int m, rfl, .int v, rfl, m, v, rfl, rfl, .inl ⟨by omega, by omega⟩, .int p, rfl, _, p, rfl, rfl, hp, hQ⟩
    · refine ⟨D, _, rfl, .inl ⟨.inl (.inl eD), fun l nl => ?_⟩⟩
      exact q _ l (sm.trans (same_upd nl)) (sm.free nl) upd_same

def sp_worth (K : PySem.W.Frag) : Sp := fun vs H Q _ => ∃ (a b : Addr) (x y : List Int) (p : Int), vs = [.int p, .ref a, .ref b] ∧ SqT K H a (x.map V.int) ∧ SqT K H b (y.map V.int) ∧ x.length ≤ 1000 ∧ 0 < p ∧ p ≤ 1000000 ∧ RowOk p x ∧
  ∀ H', Same H H' → Q (.int (worthR p x y)) H'
theorem ok_worth (T : Top K mg) : Ok P w K mg base 1 "worth" ["p", "row", "world"] (sp_worth K) := by
  refine T.d_worth.ok sc_worth (fun vs H Q E h => ?_) (fun f cdv A outer s H vs Q E hr h => ?_)
  · obtain ⟨a, b, x, y, p, rfl, _⟩ := h
    rfl
  · obtain ⟨a, b, x, y, p, rfl, hA, hB, hz, hp, hp2, ro, q⟩ := h
    refine ⟨_, ((pss_one (ps_ret (pe_op op_mod (pe_callB (cr_sum (by rfl)) (by rfl) T.b_sum (by decide +kernel) (pa_cons (pe_lc (own := [("a", 3), ("b", 4)]) (g := gTup K 2 (gCons (gName 3) (gCons (gName 4) gNil))) (by rfl) sc_worth.nd (RZ.pi_zipA (by rfl) T.b_zip (pa_cons (pv 1) (pa_cons (pv 2) pa_nil))) (blkOk_by (own := [("a", 3), ("b", 4)]) (N := N_worth) (sc := defScope s_worth) (by decide +kernel)) (fun _ _ _ _ _ => (pg_tup (by rfl) (pgs_cons (pg_name (i := 3) sc_worth.nd rfl (.inl rfl)) (pgs_cons (pg_name (i := 4) sc_worth.nd rfl (.inl rfl)) pgs_nil)))) (fun _ _ _ _ _ => pts_nil) (fun _ _ _ _ _ => (pe_op op_mul (pv 3) (pv 4)))) pa_nil)) (pv 0))))), ?_⟩
    refine ⟨.ref a, rfl, .ref b, rfl, a, b, _, _, rfl, .inr ⟨hA, hB, lc_zipI (fun u v => u * v) hA hB hz (fun _ _ => rfl) (fun u v H' Q' hu _ _ hQ => ?_) (fun D H' sm nD eD => ?_)⟩⟩
    · have := ro u hu
      exact ⟨.int u, rfl, .int v, rfl, u, v, rfl, rfl, .inl ⟨by omega, by omega⟩, hQ⟩
    · exact ⟨D, _, rfl, .inl (.inl eD), .int p, rfl, _, p, rfl, rfl, hp, q _ sm⟩

def sp_first (K : PySem.W.Frag) : Sp := fun vs H Q _ => ∃ (a : Addr) (r : List Int), vs = [.ref a] ∧ SqT K H a (r.map V.int) ∧ r.length ≤ 1000 ∧ (fpR r < r.length → ∀ H', Same H H' → Q (.int (fpR r : Int)) H') ∧ (fpR r = r.length → ∀ H', Same H H' → Q .non H')
theorem ok_first_place (T : Top K mg) : Ok P w K mg base 1 "first_place" ["row"] (sp_first K) := by
  refine T.d_first_place.ok sc_first_place (fun vs H Q E h => ?_) (fun f cdv A outer s H vs Q E hr h => ?_)
  · obtain ⟨a, r, rfl, _⟩ := h
    rfl
  · obtain ⟨a, r, rfl, hA, hl, q1, q2⟩ := h
    refine ⟨_, ((pss_cons (ps_for PassesOwn.never (by rfl) (pi_enumT (by rfl) T.b_enumerate (pa_cons (pv 0) pa_nil)) (pg_tup (by rfl) (pgs_cons (pg_name (i := 1) sc_first_place.nd rfl (.inl rfl)) (pgs_cons (pg_name (i := 2) sc_first_place.nd rfl (.inl rfl)) pgs_nil)))
        (pss_one (ps_if (pt_cmpR op_ne (pv 2) pe_int (nomark _))
          (pss_one (ps_ret (pv 1)))
          pss_nil)))
      (pss_one (ps_ret pe_non)))), ?_⟩
    refine ⟨.ref a, rfl, a, _, rfl, hA, for_it (walk_enumT (K := K) (a := a) (xs := r.map V.int)) (fun i σ H' => Same H H' ∧ (∀ j, j < i → r.getD j 0 = 0) ∧ ∃ y1 y2, σ = [some (.ref a), y1, y2]) ⟨Same.refl H, fun j hj => absurd hj (Nat.not_lt_zero _), none, none, rfl⟩ (fun i σ H' _ hW => Same.tup hW.1 hA) (fun i v σ H1 H2 hi hW hY => ?_) (fun σ H' hW => ?_)⟩
    · obtain ⟨sm, lo, y1, y2, rfl⟩ := hW
      obtain ⟨Ta, x, y, rfl, nT, rfl, g1, g2⟩ := hY
      rw [List.length_map] at hi
      have g1 : x = V.int (i : Nat) := (Option.some.inj g1).symm
      have g2 : (r.map V.int)[i]? = some y := g2
      rw [List.getElem?_map, List.getElem?_eq_getElem hi] at g2
      have g2 : y = V.int r[i] := (Option.some.inj g2).symm
      subst g1 g2
      have sT : Same H1 (upd H1 Ta (.tup [.int (i : Nat), .int r[i]])) := same_upd nT
      refine ⟨Ta, [.int (i : Nat), .int r[i]], rfl, .inl (.inl upd_same), rfl, .int (i : Nat), [.int r[i]], rfl, .int r[i], [], rfl, rfl, ?_⟩
      refine ⟨.int r[i], rfl, rfl, _, rfl, ite2 (fun e => ?_) (fun e => ?_)⟩
      · have nz : r.getD i 0 ≠ 0 := fun z => by
          rw [gd_lt hi] at z
          rw [z] at e
          cases e
        have ef := fpR_of nz lo
        refine ⟨.int (i : Nat), rfl, ?_⟩
        have := q1 (by omega) _ (sm.trans sT)
        rw [ef] at this
        exact this
      · refine ⟨sm.trans sT, fun j hj => ?_, _, _, rfl⟩
        by_cases ej : j = i
        · subst ej
          rw [gd_lt hi]
          apply Classical.byContradiction
          intro hn
          apply e
          rw [decide_eq_false (fun z => hn (V.int.inj z))]
          rfl
        · exact lo j (by omega)
    · obtain ⟨sm, lo, y1, y2, rfl⟩ := hW
      refine q2 ?_ _ sm
      rw [List.length_map] at lo
      rcases Nat.lt_or_ge (fpR r) r.length with h | h
      · exact absurd (lo _ h) (fpR_at h)
      · have := fpR_le r
        omega

def sp_cleared (K : PySem.W.Frag) : Sp := fun vs H Q _ => ∃ (a b : Addr) (r c : List Int) (p : Int) (n : Nat), vs = [.int p, .ref b, .ref a] ∧ SqT K H a (r.map V.int) ∧ SqT K H b (c.map V.int) ∧ RowsOk p n [r] ∧ c.length = n ∧ fpR c < n ∧ n ≤ 1000 ∧ 0 < p ∧ p ≤ 100000 ∧
  ∀ H' l, Same H H' → SqT K H' l ((lessR p r c (fpR c)).map V.int) → Q (.ref l) H'
theorem ok_cleared (T : Top K mg) : Ok P w K mg base 2 "cleared" ["p", "plain", "row"] (sp_cleared K) := by
  have O_first_place := ok_first_place (P := P) (w := w) (base := base) T
  have O_added := ok_added (P := P) (w := w) (base := base) T
  have O_times := ok_times (P := P) (w := w) (base := base) T
  refine T.d_cleared.ok sc_cleared (fun vs H Q E h => ?_) (fun f cdv A outer s H vs Q E hr h => ?_)
  · obtain ⟨a, b, r, c, p, n, rfl, _⟩ := h
    rfl
  · obtain ⟨a, b, r, c, p, n, rfl, hA, hB, okr, lc, hfp, hn, hp, hp2, q⟩ := h
    refine ⟨_, ((pss_cons (ps_set (i := 3) sc_cleared.nd rfl (.inl rfl) (pe_ix ix_tup (pv 2) (pe_callO O_first_place (hr.mono (by omega)) (by rfl) (pa_cons (pv 1) pa_nil)) (fun _ _ => rfl)))
      (pss_cons (ps_if (pt_cmpR op_eq (pv 3) pe_int (nomark _))
        (pss_one (ps_ret (pv 2)))
        pss_nil)
      (pss_one (ps_ret (pe_callO O_added (hr.mono (by omega)) (by rfl) (pa_cons (pv 0) (pa_cons (pv 2) (pa_cons (pe_callO O_times (hr.mono (by omega)) (by rfl) (pa_cons (pv 0) (pa_cons (pe_op op_sub (pv 0) (pv 3)) (pa_cons (pv 1) pa_nil)))) pa_nil))))))))), ?_⟩
    have okr := okr r List.mem_cons_self
    have bj := rowOk_getD okr hfp
    refine ⟨.ref a, rfl, .ref b, rfl, b, c, rfl, hB, by omega, fun hlt H1 s1 => ?_, fun e => by omega⟩
    refine ⟨a, _, _, _, rfl, rfl, Same.tup s1 hA, at_row (by rw [okr.1]; exact hfp), ?_⟩
    refine ⟨.int (r.getD (fpR c) 0), rfl, rfl, _, rfl, ite2 (fun e => ?_) (fun e => ?_)⟩
    · have z : r.getD (fpR c) 0 = 0 := V.int.inj (of_decide_eq_true e)
      refine ⟨.ref a, rfl, q H1 a s1 ?_⟩
      unfold lessR
      rw [z, less_zero r c (by rw [okr.1, lc]) okr.2]
      exact Same.tup s1 hA
    · refine ⟨.int p, rfl, .ref a, rfl, .int p, rfl, .int p, rfl, .int (r.getD (fpR c) 0), rfl, _, _, rfl, rfl, .ref b, rfl, b, c, p, _, rfl, Same.tup s1 hB, by omega, hp, by omega, by omega, fun H2 l2 s2 n2 e2 => ?_⟩
      refine ⟨a, l2, r, _, p, rfl, Same.tup (s1.trans s2) hA, .inl (.inl e2), by omega, hp, fun H3 l3 s3 n3 e3 => ?_⟩
      refine q H3 l3 ((s1.trans s2).trans s3) (.inl (.inl ?_))
      rw [less_eq] at e3
      exact e3

def sp_left (K : PySem.W.Frag) : Sp := fun vs H Q _ => ∃ (a b : Addr) (room : List (List Int)) (r : List Int) (p : Int) (n : Nat), vs = [.int p, .ref b, .ref a] ∧ RowsAt K H b room ∧ SqT K H a (r.map V.int) ∧ RowsOk p n room ∧ (∀ c ∈ room, fpR c < n) ∧ RowsOk p n [r] ∧ n ≤ 1000 ∧ 0 < p ∧ p ≤ 100000 ∧
  ∀ H' l, Same H H' → SqT K H' l ((leftR p room r).map V.int) → Q (.ref l) H'
theorem ok_left_of (T : Top K mg) : Ok P w K mg base 3 "left_of" ["p", "room", "row"] (sp_left K) := by
  have O_cleared := ok_cleared (P := P) (w := w) (base := base) T
  refine T.d_left_of.ok sc_left_of (fun vs H Q E h => ?_) (fun f cdv A outer s H vs Q E hr h => ?_)
  · obtain ⟨a, b, room, r, p, n, rfl, _⟩ := h
    rfl
  · obtain ⟨a, b, room, r, p, n, rfl, ⟨ws, hB, hR⟩, hA, ok, hfp, okr, hn, hp, hp2, q⟩ := h
    refine ⟨_, ((pss_cons (ps_for PassesOwn.never (by rfl) (pi_tup (pv 1)) (pg_name (i := 3) sc_left_of.nd rfl (.inl rfl))
        (pss_one (ps_set (i := 2) sc_left_of.nd rfl (.inl rfl) (pe_callO O_cleared (hr.mono (by omega)) (by rfl) (pa_cons (pv 0) (pa_cons (pv 3) (pa_cons (pv 2) pa_nil)))))))
      (pss_one (ps_ret (pv 2))))), ?_⟩
    have lw := rows_len hR
    refine ⟨.ref b, rfl, b, rfl, ⟨_, hB⟩, for_it (walk_tup (K := K) (a := b) (xs := ws)) (fun i σ H' => Same H H' ∧ ∃ (l : Addr) (y3 : Option V), SqT K H' l ((leftR p (room.take i) r).map V.int) ∧ σ = [some (.int p), some (.ref b), some (.ref l), y3]) ⟨Same.refl H, a, none, hA, rfl⟩ (fun i σ H' _ hW => Same.tup hW.1 hB) (fun i x σ H1 H2 hi hW hY => ?_) (fun σ H' hW => ?_)⟩
    · obtain ⟨sm, l, y3, hl, rfl⟩ := hW
      obtain ⟨rfl, e1⟩ := hY
      obtain ⟨c, rc, rfl, gr, mr, hc⟩ := dpAll_row (dpAll_same sm _ _ hR) e1
      have okc := ok rc mr
      refine ⟨.int p, rfl, .ref c, rfl, .ref l, rfl, l, c, leftR p (room.take i) r, rc, p, n, rfl, hl, hc, leftR_ok hp _ _ (fun x hx => ok x (List.mem_of_mem_take hx)) okr, okc.1, hfp rc mr, hn, hp, hp2, fun H3 l3 s3 h3 => ?_⟩
      refine ⟨sm.trans s3, l3, _, ?_, rfl⟩
      rw [leftR_take gr]
      exact h3
    · obtain ⟨sm, l, y3, hl, rfl⟩ := hW
      rw [List.take_of_length_le (by omega)] at hl
      exact ⟨.ref l, rfl, q H' l sm hl⟩

def sp_widened (K : PySem.W.Frag) : Sp := fun vs H Q _ => ∃ (a b : Addr) (room : List (List Int)) (r : List Int) (p : Int) (n : Nat), vs = [.int p, .ref b, .ref a] ∧ RowsAt K H b room ∧ SqT K H a (r.map V.int) ∧ PFR p n room ∧ RowsOk p n [r] ∧ Fld p ∧ 1 ≤ n ∧ n ≤ 100 ∧ p ≤ 1000 ∧
  ∀ H' l, Same H H' → RowsAt K H' l (plainR p n (room ++ [r])) → Q (.ref l) H'
theorem ok_widened (T : Top K mg) : Ok P w K mg base 4 "widened" ["p", "room", "row"] (sp_widened K) := by
  have O_left_of := ok_left_of (P := P) (w := w) (base := base) T
  have O_first_place := ok_first_place (P := P) (w := w) (base := base) T
  have O_times := ok_times (P := P) (w := w) (base := base) T
  have O_contrary := ok_contrary (P := P) (w := w) (base := base) T
  have O_cleared := ok_cleared (P := P) (w := w) (base := base) T
  refine T.d_widened.ok sc_widened (fun vs H Q E h => ?_) (fun f cdv A outer s H vs Q E hr h => ?_)
  · obtain ⟨a, b, room, r, p, n, rfl, _⟩ := h
    rfl
  · obtain ⟨a, b, room, r, p, n, rfl, hB, hA, pf, okr, hF, n1, hn, hp, q⟩ := h
    have h2 := hF.1
    have lroom : room.length ≤ n := by
      have := plainR_lenle hF pf.1
      rwa [pf.2] at this
    refine ⟨_, ((pss_cons (ps_set (i := 3) sc_widened.nd rfl (.inl rfl) (pe_callO O_left_of (hr.mono (by omega)) (by rfl) (pa_cons (pv 0) (pa_cons (pv 1) (pa_cons (pv 2) pa_nil)))))
      (pss_cons (ps_set (i := 4) sc_widened.nd rfl (.inl rfl) (pe_callO O_first_place (hr.mono (by omega)) (by rfl) (pa_cons (pv 3) pa_nil)))
      (pss_cons (ps_if (pt_cmpR op_isN (pv 4) pe_non (nomark _))
        (pss_one (ps_ret (pv 1)))
        pss_nil)
      (pss_cons (ps_set (i := 5) sc_widened.nd rfl (.inr rfl) (pe_callO O_times (hr.mono (by omega)) (by rfl) (pa_cons (pv 0) (pa_cons (pe_callO O_contrary (hr.mono (by omega)) (by rfl) (pa_cons (pv 0) (pa_cons (pe_ix ix_tup (pv 3) (pv 4) (fun _ _ => rfl)) pa_nil))) (pa_cons (pv 3) pa_nil)))))
      (pss_one (ps_ret (pe_callTy call_tuple_of (by rfl) T.b_tuple (by decide +kernel) (pa_cons (pe_callBK cr_sortTR (by rfl) T.b_sorted (by decide +kernel) (pa_cons (pe_op op_cat (pe_lst (pa_cons (pv 5) pa_nil)) (pe_lc (own := [("plain", 6)]) (g := gName 6) (by rfl) sc_widened.nd (pi_tup (pv 1)) (blkOk_by (own := [("plain", 6)]) (N := N_widened) (sc := defScope s_widened) (by decide +kernel)) (fun _ _ _ _ _ => (pg_name (i := 6) sc_widened.nd rfl (.inl rfl))) (fun _ _ _ _ _ => pts_nil) (fun _ _ _ _ _ => (pe_callO O_cleared (hr.mono (by omega)) (by rfl) (pa_cons (pv 0) (pa_cons (pv 5) (pa_cons (pv 6) pa_nil))))))) pa_nil) (pk_cons pe_bl pk_nil)) pa_nil))))))))), ?_⟩
    refine ⟨.int p, rfl, .ref b, rfl, .ref a, rfl, a, b, room, r, p, n, rfl, hB, hA, pf.1, pf.fp_lt hF, okr, by omega, by omega, by omega, fun H1 l s1 h1 => ?_⟩
    have okl := pf.left_ok hF okr _ List.mem_cons_self
    have wid := fun rs => pf.widen (rs := rs) hF okr
    have wid0 := pf.widen0 hF okr
    generalize hy : leftR p room r = y at h1 okl wid wid0
    refine ⟨.ref l, rfl, l, y, rfl, h1, by omega, fun hlt H2 s2 => ?_, fun e H2 s2 => ?_⟩
    · -- a fresh row
      refine ⟨.int (fpR y : Int), rfl, rfl, _, rfl, ?_⟩
      rw [decide_eq_false (fun z => by cases z)]
      refine iteF ?_
      rw [okl.1] at hlt
      have bj := rowOk_getD okl hlt
      have nz : y.getD (fpR y) 0 ≠ 0 := fpR_at (by rw [okl.1]; exact hlt)
      have hl2 := Same.tup s2 h1
      refine ⟨.int p, rfl, .int p, rfl, .ref l, rfl, .int (fpR y : Int), rfl, l, _, _, _, rfl, rfl, hl2, at_row (by rw [okl.1]; exact hlt), p, _, rfl, hF, hp, by omega, bj.2, .ref l, rfl, l, y, p, ctr p (y.getD (fpR y) 0), rfl, hl2, by omega, by omega, ?_, ?_, fun H3 l3 s3 n3 e3 => ?_⟩
      · have := (ctr_ok hF (show 1 ≤ y.getD (fpR y) 0 by omega) bj.2).1
        omega
      · have := (ctr_ok hF (show 1 ≤ y.getD (fpR y) 0 by omega) bj.2).2.1
        omega
      have e3 : H3 l3 = some (.tup ((ownR p y (fpR y)).map V.int)) := e3
      have okf := own_row (p := p) (by omega) okl.1 (fpR y)
      have wid := fun rs => wid rs hlt
      -- its first place
      have ff : fpR (ownR p y (fpR y)) = fpR y := by
        have hc := ctr_ok hF (show 1 ≤ y.getD (fpR y) 0 by omega) bj.2
        have gd : ∀ i, i < n → (ownR p y (fpR y)).getD i 0 = ctr p (y.getD (fpR y) 0) * y.getD i 0 % p := fun i hi => by
          unfold ownR
          rw [gd_lt (by rw [List.length_map, okl.1]; exact hi), List.getElem_map, gd_lt (r := y) (i := i) (by rw [okl.1]; exact hi)]
        refine fpR_of ?_ fun i hi => ?_
        · rw [gd _ hlt, Int.mul_comm, hc.2.2]
          decide
        · rw [gd _ (by omega), fpR_low hi, Int.mul_zero, Int.zero_emod]
      generalize ownR p y (fpR y) = fr at e3 okf wid ff
      refine ⟨.ref l3, rfl, sz1000 (by decide : (1 : Nat) ≤ 1000), fun L nL => ?_⟩
      generalize h4 : upd H3 L _ = H4
      obtain ⟨s4, e4⟩ := new_of h4 nL
      have t14 : Same H H4 := ((s1.trans s2).trans s3).trans s4
      obtain ⟨ws, hB4, hR4⟩ := RowsAt.same t14 hB
      have lw := rows_len hR4
      have hf4 : SqT K H4 l3 (fr.map V.int) := .inl (.inl (s4 _ _ e3))
      refine ⟨.ref b, rfl, b, rfl, ⟨_, hB4⟩, lc_mapR (fun d => rowD (lessR p (intsOf d) fr (fpR fr))) (walk_tup (K := K) (a := b) (xs := ws)) (fun H' s => Same.tup s hB4) (rep_rows hR4) (by omega) (fun _ => rfl) (fun v d H' Q' md rv sm hQ => ?_) (fun D H5 vs5 s5 n5 e5 r5 => ?_)⟩
      · obtain ⟨x, mx, rfl⟩ := List.mem_map.mp md
        obtain ⟨c, rfl, hc⟩ := rep_row rv
        rw [ints_row] at hQ
        refine ⟨.int p, rfl, .ref l3, rfl, .ref c, rfl, c, l3, x, fr, p, n, rfl, hc, Same.tup sm hf4, rowsOk_one (pf.1 x mx), okf.1, by omega, by omega, by omega, by omega, fun H'' l'' s'' h'' => hQ (.ref l'') H'' s'' (row_rep h'')⟩
      have em : (room.map rowD).map (fun d => rowD (lessR p (intsOf d) fr (fpR fr))) = (room.map fun x => lessR p x fr (fpR y)).map rowD := by
        rw [List.map_map, List.map_map]
        apply List.map_congr_left
        intro x _
        show rowD (lessR p (intsOf (rowD x)) fr (fpR fr)) = rowD (lessR p x fr (fpR y))
        rw [ints_row, ff]
      rw [em] at r5
      have d5 := rows_rep r5
      have lv5 : vs5.length = room.length := by
        have := rows_len d5
        rwa [List.length_map] at this
      have e45 := s5 _ _ e4
      refine ⟨L, D, _, _, rfl, rfl, e45, e5, sz1000 (by simp; omega), fun C nC => ?_⟩
      generalize h6 : upd H5 C _ = H6
      obtain ⟨s6, e6⟩ := new_of h6 nC
      have t46 : Same H4 H6 := s5.trans s6
      have hf6 := Same.tup t46 hf4
      have d6 : DpAll K H6 ([V.ref l3] ++ vs5) ((fr :: room.map fun x => lessR p x fr (fpR y)).map rowD) := .cons (row_dp hf6) (dpAll_same s6 _ _ d5)
      have okL : RowsOk p n (fr :: room.map fun x => lessR p x fr (fpR y)) := fun x hx => by
        rcases List.mem_cons.mp hx with rfl | hx
        · exact okf
        · obtain ⟨z, hz, rfl⟩ := List.mem_map.mp hx
          exact less_row (by omega) (pf.1 z hz).1 okf.1 _
      refine ⟨C, _, n, p, rfl, rfl, n1, .inl (.inl e6), fun x hx => ?_, fun ys S pm pw nS => ?_⟩
      · obtain ⟨i, hi, rfl⟩ := List.getElem_of_mem hx
        obtain ⟨c, rc, ec, gr, mr, hc⟩ := dpAll_row d6 (List.getElem?_eq_getElem hi)
        exact ⟨rc, ⟨c, ec, hc⟩, (okL rc mr).1, (okL rc mr).2⟩
      generalize h7 : upd H6 S _ = H7
      obtain ⟨s7, e7⟩ := new_of h7 nS
      obtain ⟨rs', pm', d'⟩ := dpAll_perm pm d6
      have pw' := dpAll_pw d' pw
      have er := wid rs' pm' pw'
      refine ⟨S, ys, rfl, .inl ⟨.inl (.inl e7), fun R nR => ?_⟩⟩
      generalize h8 : upd H7 R _ = H8
      obtain ⟨s8, e8⟩ := new_of h8 nR
      refine q H8 R (((t14.trans t46).trans s7).trans s8) ⟨ys, .inl (.inl e8), ?_⟩
      rw [← er]
      exact dpAll_same (s7.trans s8) _ _ d'
    · -- nothing new
      refine ⟨.non, rfl, rfl, _, rfl, ?_⟩
      rw [decide_eq_true rfl]
      refine iteT ⟨.ref b, rfl, q H2 b (s1.trans s2) ?_⟩
      rw [← wid0 (fpR_all e)]
      exact RowsAt.same (s1.trans s2) hB

def sp_room_of (K : PySem.W.Frag) : Sp := fun vs H Q _ => ∃ (a : Addr) (rs : List (List Int)) (p : Int) (n : Nat), vs = [.int p, .int (n : Int), .ref a] ∧ RowsAt K H a rs ∧ RowsOk p n rs ∧ Fld p ∧ 1 ≤ n ∧ n ≤ 100 ∧ p ≤ 1000 ∧
  ∀ H' l, Same H H' → RowsAt K H' l (plainR p n rs) → Q (.ref l) H'
theorem ok_room_of (T : Top K mg) : Ok P w K mg base 5 "room_of" ["p", "n", "rows"] (sp_room_of K) := by
  have O_widened := ok_widened (P := P) (w := w) (base := base) T
  refine T.d_room_of.ok sc_room_of (fun vs H Q E h => ?_) (fun f cdv A outer s H vs Q E hr h => ?_)
  · obtain ⟨a, rs, p, n, rfl, _⟩ := h
    rfl
  · obtain ⟨a, rs, p, n, rfl, ⟨ws, hA, hR⟩, ok, hF, n1, hn, hp, q⟩ := h
    refine ⟨_, ((pss_cons (ps_set (i := 3) sc_room_of.nd rfl (.inl rfl) (pe_tup pa_nil))
      (pss_cons (ps_for PassesOwn.never (by rfl) (pi_tup (pv 2)) (pg_name (i := 4) sc_room_of.nd rfl (.inl rfl))
        (pss_cons (ps_if (pt_cmpR op_eq (pe_callB call_len_seq (by rfl) T.b_len (by decide +kernel) (pa_cons (pv 3) pa_nil)) (pv 1) (nomark _))
          (pss_one (ps_ret (pv 3)))
          pss_nil)
        (pss_one (ps_set (i := 3) sc_room_of.nd rfl (.inl rfl) (pe_callO O_widened (hr.mono (by omega)) (by rfl) (pa_cons (pv 0) (pa_cons (pv 3) (pa_cons (pv 4) pa_nil))))))))
      (pss_one (ps_ret (pv 3)))))), ?_⟩
    have lw := rows_len hR
    refine ⟨Nat.zero_le _, fun z nz => ?_⟩
    generalize h1 : upd H z _ = H1
    obtain ⟨s1, e1⟩ := new_of h1 nz
    have hA1 := Same.tup s1 hA
    refine ⟨.ref a, rfl, a, rfl, ⟨_, hA1⟩, for_it (walk_tup (K := K) (a := a) (xs := ws)) (fun i σ H' => Same H H' ∧ ∃ (b : Addr) (y4 : Option V), RowsAt K H' b (plainR p n (rs.take i)) ∧ σ = [some (.int p), some (.int (n : Int)), some (.ref a), some (.ref b), y4]) ⟨s1, z, none, ⟨[], .inl (.inl e1), ?_⟩, rfl⟩ (fun i σ H' _ hW => Same.tup hW.1 hA) (fun i x σ H2 H3 hi hW hY => ?_) (fun σ H' hW => ?_)⟩
    · rw [List.take_zero, plainR_nil]
      exact .nil
    · obtain ⟨sm, b, y4, hb, rfl⟩ := hW
      obtain ⟨rfl, e1⟩ := hY
      obtain ⟨c, r, rfl, gr, mr, hc⟩ := dpAll_row (dpAll_same sm _ _ hR) e1
      have okt : RowsOk p n (rs.take i) := fun x hx => ok x (List.mem_of_mem_take hx)
      have okr : RowsOk p n [r] := rowsOk_one (ok r mr)
      have pf := PFR.of_plain hF okt
      have eapp : rs.take (i + 1) = rs.take i ++ [r] := by
        rw [List.take_add_one, gr]
        rfl
      obtain ⟨wb, hb1, hb2⟩ := id hb
      have lb := rows_len hb2
      refine ⟨.ref b, rfl, b, wb, rfl, .inr hb1, .int n, rfl, rfl, _, rfl, ite2 (fun e => ?_) (fun e => ?_)⟩
      · have e : wb.length = n := by
          have := V.int.inj (of_decide_eq_true e)
          omega
        refine ⟨.ref b, rfl, q _ b sm ?_⟩
        have ef : plainR p n rs = plainR p n (rs.take i) := by
          have := plain_full hF okt (show RowsOk p n (rs.drop i) from fun x hx => ok x (List.mem_of_mem_drop hx)) (by omega)
          rwa [List.take_append_drop] at this
        rw [ef]
        exact hb
      · refine ⟨.int p, rfl, .ref b, rfl, .ref c, rfl, c, b, plainR p n (rs.take i), r, p, n, rfl, hb, hc, pf, okr, hF, n1, hn, hp, fun H4 l s4 h4 => ?_⟩
        refine ⟨sm.trans s4, l, _, ?_, rfl⟩
        rw [eapp, ← plainR_app hF okt okr]
        exact h4
    · obtain ⟨sm, b, y4, hb, rfl⟩ := hW
      rw [List.take_of_length_le (by omega)] at hb
      exact ⟨.ref b, rfl, q H' b sm hb⟩

theorem rep_flat (n : Nat) (z : Int) : (List.replicate n [V.int z]).flatten = (List.replicate n z).map V.int := by
  induction n with
  | zero => rfl
  | succ n ih =>
    rw [List.replicate_succ, List.flatten_cons, ih]
    rfl
def sp_across_at (K : PySem.W.Frag) : Sp := fun vs H Q _ => ∃ (a : Addr) (room : List (List Int)) (p : Int) (n j : Nat), vs = [.int p, .int (n : Int), .ref a, .int (j : Int)] ∧ RowsAt K H a room ∧ RowsOk p n room ∧ (∀ c ∈ room, fpR c < n) ∧ j < n ∧ n ≤ 1000 ∧ 2 ≤ p ∧
  ∀ H' l, Same H H' → H' l = some (.tup ((crossR p n room j).map V.int)) → Q (.ref l) H'
theorem ok_across_at (T : Top K mg) : Ok P w K mg base 2 "across_at" ["p", "n", "room", "at"] (sp_across_at K) := by
  have O_first_place := ok_first_place (P := P) (w := w) (base := base) T
  refine T.d_across_at.ok sc_across_at (fun vs H Q E h => ?_) (fun f cdv A outer s H vs Q E hr h => ?_)
  · obtain ⟨a, room, p, n, j, rfl, _⟩ := h
    rfl
  · obtain ⟨a, room, p, n, j, rfl, ⟨ws, hA, hR⟩, ok, hfp, hj, hn, hp, q⟩ := h
    refine ⟨_, ((pss_cons (ps_set (i := 4) sc_across_at.nd rfl (.inl rfl) (pe_op op_rep (pe_lst (pa_cons pe_int pa_nil)) (pv 1)))
      (pss_cons (ps_asg pe_int (pg_sub (pv 4) (pv 3) set_list))
      (pss_cons (ps_for PassesOwn.never (by rfl) (pi_tup (pv 2)) (pg_name (i := 5) sc_across_at.nd rfl (.inl rfl))
        (pss_one (ps_asg (pe_op op_mod (pe_un un_neg (pe_ix ix_tup (pv 5) (pv 3) (fun _ _ => rfl))) (pv 0)) (pg_sub (pv 4) (pe_callO O_first_place (hr.mono (by omega)) (by rfl) (pa_cons (pv 5) pa_nil)) set_list))))
      (pss_one (ps_ret (pe_callTy call_tuple_of (by rfl) T.b_tuple (by decide +kernel) (pa_cons (pv 4) pa_nil)))))))), ?_⟩
    have lw := rows_len hR
    refine ⟨sz1000 (by decide : (1 : Nat) ≤ 1000), fun z nz => ?_⟩
    generalize h1 : upd H z _ = H1
    obtain ⟨s1, e1⟩ := new_of h1 nz
    refine ⟨.int n, rfl, z, n, _, rfl, rfl, e1, by omega, by omega, sz1000 (by show 1 * ((n : Int)).toNat ≤ 1000; omega), fun o no => ?_⟩
    rw [show ((n : Int)).toNat = n from rfl, rep_flat]
    generalize h2 : upd H1 o _ = H2
    obtain ⟨s2, e2⟩ := new_of h2 no
    have noH : H o = none := s1.free no
    have s12 := s1.trans s2
    refine ⟨.ref o, rfl, .int j, rfl, o, _, j, j, rfl, rfl, e2, ?_, ?_⟩
    · rw [List.length_map, List.length_replicate]
      exact ix_nat (by omega) (by omega)
    rw [show (V.int 1) = V.int (1 : Int) from rfl, ← List.map_set]
    have s3 : Same H (upd H2 o (.lst (((List.replicate n (0 : Int)).set j 1).map V.int))) := same_mut s12 noH
    generalize h3 : upd H2 o (.lst (((List.replicate n (0 : Int)).set j 1).map V.int)) = H3 at s3
    have e3 : H3 o = some (.lst (((List.replicate n (0 : Int)).set j 1).map V.int)) := by rw [← h3]; exact upd_same
    refine ⟨.ref a, rfl, a, rfl, ⟨_, Same.tup s3 hA⟩, for_it (walk_tup (K := K) (a := a) (xs := ws)) (fun i σ H' => Same H H' ∧ H' o = some (.lst ((crossF p (room.take i) j ((List.replicate n 0).set j 1)).map V.int)) ∧ ∃ y5 : Option V, σ = [some (.int p), some (.int (n : Int)), some (.ref a), some (.int (j : Int)), some (.ref o), y5]) ⟨s3, e3, none, rfl⟩ (fun i σ H' _ hW => Same.tup hW.1 hA) (fun i x σ H4 H5 hi hW hY => ?_) (fun σ H' hW => ?_)⟩
    · obtain ⟨sm, eo, y5, rfl⟩ := hW
      obtain ⟨rfl, e1⟩ := hY
      obtain ⟨c, r, rfl, gr, mr, hc⟩ := dpAll_row (dpAll_same sm _ _ hR) e1
      have okr := ok r mr
      have hf := hfp r mr
      refine ⟨.ref c, rfl, .int j, rfl, c, _, _, _, rfl, rfl, hc, at_row (by rw [okr.1]; exact hj), r.getD j 0, rfl, .int p, rfl, _, p, rfl, rfl, by omega, ?_⟩
      refine ⟨.ref o, rfl, .ref c, rfl, c, r, rfl, hc, by omega, fun hlt H6 s6 => ?_, fun e => by omega⟩
      refine ⟨o, _, fpR r, fpR r, rfl, rfl, s6 _ _ eo, ?_, same_mut (sm.trans s6) noH, ?_, _, rfl⟩
      · rw [List.length_map, crossF_len, List.length_set, List.length_replicate]
        exact ix_nat (by omega) (by omega)
      · rw [upd_same, ← List.map_set, crossF_take gr]
    · obtain ⟨sm, eo, y5, rfl⟩ := hW
      rw [List.take_of_length_le (by omega)] at eo
      refine ⟨.ref o, rfl, o, _, rfl, .inl ⟨.inl (.inl eo), fun l nl => ?_⟩⟩
      generalize h5 : upd H' l _ = H5
      obtain ⟨s5, e5⟩ := new_of h5 nl
      exact q H5 l (sm.trans s5) e5

def sp_across (K : PySem.W.Frag) : Sp := fun vs H Q _ => ∃ (a : Addr) (room : List (List Int)) (p : Int) (n : Nat), vs = [.int p, .int (n : Int), .ref a] ∧ RowsAt K H a room ∧ PFR p n room ∧ Fld p ∧ 1 ≤ n ∧ n ≤ 100 ∧ p ≤ 1000 ∧
  ∀ H' l, Same H H' → RowsAt K H' l (acrossR p n room) → Q (.ref l) H'
theorem range_filter_succ (q : Nat → Bool) (k : Nat) : (List.range (k + 1)).filter q = (List.range k).filter q ++ (if q k = true then [k] else []) := by
  rw [List.range_succ, List.filter_append]
  congr 1
  by_cases h : q k = true
  · simp [h]
  · simp [h]
theorem ok_across (T : Top K mg) : Ok P w K mg base 6 "across" ["p", "n", "room"] (sp_across K) := by
  have O_first_place := ok_first_place (P := P) (w := w) (base := base) T
  have O_across_at := ok_across_at (P := P) (w := w) (base := base) T
  have O_room_of := ok_room_of (P := P) (w := w) (base := base) T
  refine T.d_across.ok sc_across (fun vs H Q E h => ?_) (fun f cdv A outer s H vs Q E hr h => ?_)
  · obtain ⟨a, room, p, n, rfl, _⟩ := h
    rfl
  · obtain ⟨a, room, p, n, rfl, ⟨ws, hA, hR⟩, pf, hF, n1, hn, hp, q⟩ := h
    have h2 := hF.1
    refine ⟨_, ((pss_cons (ps_set (i := 4) sc_across.nd rfl (.inr rfl) (pe_lc (own := [("plain", 3)]) (g := gName 3) (by rfl) sc_across.nd (pi_tup (pv 2)) (blkOk_by (own := [("plain", 3)]) (N := N_across) (sc := defScope s_across) (by decide +kernel)) (fun _ _ _ _ _ => (pg_name (i := 3) sc_across.nd rfl (.inl rfl))) (fun _ _ _ _ _ => pts_nil) (fun _ _ _ _ _ => (pe_callO O_first_place (hr.mono (by omega)) (by rfl) (pa_cons (pv 3) pa_nil)))))
      (pss_one (ps_ret (pe_callO O_room_of (hr.mono (by omega)) (by rfl) (pa_cons (pv 0) (pa_cons (pv 1) (pa_cons (pe_callTy call_tuple_of (by rfl) T.b_tuple (by decide +kernel) (pa_cons (pe_lc (own := [("at", 5)]) (g := gName 5) (by rfl) sc_across.nd (pi_range1 (by rfl) T.b_range (pa_cons (pv 1) pa_nil)) (blkOk_by (own := [("at", 5)]) (N := N_across) (sc := defScope s_across) (by decide +kernel)) (fun _ _ _ _ _ => (pg_name (i := 5) sc_across.nd rfl (.inl rfl))) (fun _ _ _ _ _ => (pts_one (pt_cmpR (show OpR _ (compareOp .NotIn) (rIn K true) from op_notIn_seq) (pv 5) (pv 4) (by rfl)))) (fun _ _ _ _ _ => (pe_callO O_across_at (hr.mono (by omega)) (by rfl) (pa_cons (pv 0) (pa_cons (pv 1) (pa_cons (pv 2) (pa_cons (pv 5) pa_nil))))))) pa_nil)) pa_nil)))))))), ?_⟩
    have lw := rows_len hR
    have lrm : room.length ≤ n := by
      have := plainR_lenle hF pf.1
      rwa [pf.2] at this
    have fp := pf.fp_lt hF
    refine ⟨.ref a, rfl, a, rfl, ⟨_, hA⟩, lc_valR (fun d => V.int (fpR (intsOf d) : Int)) (walk_tup (K := K) (a := a) (xs := ws)) (fun H' s => Same.tup s hA) (rep_rows hR) (by omega) (fun _ => rfl) (fun v d H' Q' md rv sm hQ => ?_) (fun F1 H1 s1 nF eF => ?_)⟩
    · obtain ⟨r, mr, rfl⟩ := List.mem_map.mp md
      obtain ⟨c, rfl, hc⟩ := rep_row rv
      rw [ints_row] at hQ
      have okr := pf.1 r mr
      exact ⟨.ref c, rfl, c, r, rfl, hc, by omega, fun _ H'' s'' => hQ H'' s'', fun e => by have := fp r mr; omega⟩
    have eF : H1 F1 = some (.lst ((room.map fun r => (fpR r : Int)).map V.int)) := by
      rw [List.map_map] at eF
      rw [List.map_map, eF]
      congr 2
      apply List.map_congr_left
      intro r _
      show V.int (fpR (intsOf (rowD r)) : Int) = V.int (fpR r : Int)
      rw [ints_row]
    refine ⟨.int p, rfl, .int n, rfl, .int n, rfl, n, rfl, by omega, by omega, fun D nD => ?_⟩
    have hA1 := Same.tup s1 hA
    refine lc_it (walk_range (lo := 0) (n := n)) (fun k H' => Same H1 H' ∧ ∃ vs' : List V, H' D = some (.lst vs') ∧ vs'.length ≤ k ∧ DpAll K H' vs' ((((List.range k).filter fun j => !decide (j ∈ room.map fpR)).map (crossR p n room)).map rowD)) ⟨same_upd nD, [], upd_same, Nat.le_refl _, .nil⟩ (fun _ _ _ _ => True.intro) (fun k x H2 H3 hk hP hY => ?_) (fun H' hP => ?_)
    · obtain ⟨rfl, rfl⟩ := hY
      obtain ⟨sm, vs', eD, lv, dv⟩ := hP
      refine ⟨rfl, .int (0 + k), rfl, .ref F1, rfl, F1, _, rfl, .inl (.inl (.inl (sm _ _ eF))), rfl, ?_, _, rfl, ?_⟩
      · rw [List.all_map]
        exact List.all_eq_true.mpr fun _ _ => rfl
      rw [in_ints]
      have ed : decide ((0 : Int) + (k : Int) ∈ room.map fun r => (fpR r : Int)) = decide (k ∈ room.map fpR) := by
        refine decide_eq_decide.mpr ?_
        rw [List.mem_map, List.mem_map]
        constructor
        · rintro ⟨r, hr, e⟩
          exact ⟨r, hr, by omega⟩
        · rintro ⟨r, hr, e⟩
          exact ⟨r, hr, by omega⟩
      rw [ed]
      have tkr := range_filter_succ (fun j => !decide (j ∈ room.map fpR)) k
      by_cases hin : k ∈ room.map fpR
      · rw [decide_eq_true hin] at tkr ⊢
        refine iteF ⟨sm, vs', eD, by omega, ?_⟩
        rw [tkr, if_neg (by decide), List.append_nil]
        exact dv
      · rw [decide_eq_false hin] at tkr ⊢
        refine iteT ⟨.int p, rfl, .int n, rfl, .ref a, rfl, .int (0 + k), rfl, a, room, p, n, k, by rw [Int.zero_add]; rfl, ⟨ws, Same.tup sm hA1, dpAll_same (s1.trans sm) _ _ hR⟩, pf.1, fp, hk, by omega, by omega, fun H4 l s4 e4 => ?_⟩
        have eD4 := s4 _ _ eD
        have tk : Tk H4 (upd H4 D (.lst (vs' ++ [.ref l]))) := Tk.mut (Tk.refl H4) eD4
        refine ⟨vs', eD4, small1000 (by omega), same_mut (sm.trans s4) nD, vs' ++ [.ref l], upd_same, by rw [List.length_append]; simp; omega, ?_⟩
        rw [tkr, if_pos (by decide), List.map_append, List.map_append]
        exact dpAll_append (dpAll_tk tk _ _ (noL_rows _) (dpAll_same s4 _ _ dv)) (.cons (row_dp (tk K _ _ (.inl (.inl e4)))) .nil)
    · obtain ⟨sm, vs', eD, lv, dv⟩ := hP
      refine ⟨D, vs', rfl, .inl ⟨.inl (.inl eD), fun l nl => ?_⟩⟩
      generalize h5 : upd H' l _ = H5
      obtain ⟨s5, e5⟩ := new_of h5 nl
      refine ⟨l, (freesR n room).map (crossR p n room), p, n, rfl, ⟨vs', .inl (.inl e5), dpAll_same s5 _ _ dv⟩, free_rows h2 n room, hF, n1, hn, hp, fun H6 l6 s6 h6 => ?_⟩
      exact q H6 l6 (((s1.trans sm).trans s5).trans s6) h6

def sp_plus (K : PySem.W.Frag) : Sp := fun vs H Q _ => ∃ (a b : Addr) (x y : List Int) (p m : Int), vs = [.int p, .ref a, .ref b, .int m] ∧ SqT K H a (x.map V.int) ∧ SqT K H b (y.map V.int) ∧ x.length ≤ 1000 ∧ 0 < p ∧ -1000000 ≤ m ∧ m ≤ 1000000 ∧
  ∀ H' l, Same H H' → H l = none → H' l = some (.tup ((plusR p x y m).map V.int)) → Q (.ref l) H'
theorem ok__law_plus (T : Top K mg) : Ok P w K mg base 1 "_law_plus" ["_law_p", "_law_one", "_law_other", "_law_many"] (sp_plus K) := by
  refine T.d__law_plus.ok sc__law_plus (fun vs H Q E h => ?_) (fun f cdv A outer s H vs Q E hr h => ?_)
  · obtain ⟨a, b, x, y, p, m, rfl, _⟩ := h
    rfl
  · obtain ⟨a, b, x, y, p, m, rfl, hA, hB, hz, hp, hm1, hm2, q⟩ := h
    refine ⟨_, ((pss_one (ps_ret (pe_callTy call_tuple_of (by rfl) T.b_tuple (by decide +kernel) (pa_cons (pe_lc (own := [("_law_a", 4), ("_law_b", 5)]) (g := gTup K 2 (gCons (gName 4) (gCons (gName 5) gNil))) (by rfl) sc__law_plus.nd (RZ.pi_zipA (by rfl) T.b_zip (pa_cons (pv 1) (pa_cons (pv 2) pa_nil))) (blkOk_by (own := [("_law_a", 4), ("_law_b", 5)]) (N := N__law_plus) (sc := defScope s__law_plus) (by decide +kernel)) (fun _ _ _ _ _ => (pg_tup (by rfl) (pgs_cons (pg_name (i := 4) sc__law_plus.nd rfl (.inl rfl)) (pgs_cons (pg_name (i := 5) sc__law_plus.nd rfl (.inl rfl)) pgs_nil)))) (fun _ _ _ _ _ => pts_nil) (fun _ _ _ _ _ => (pe_op op_mod (pe_op op_add (pv 4) (pe_op op_mul (pv 3) (pv 5))) (pv 0)))) pa_nil))))), ?_⟩
    refine ⟨.ref a, rfl, .ref b, rfl, a, b, _, _, rfl, .inr ⟨hA, hB, lc_zipI (fun u v => (u + m * v) % p) hA hB hz (fun _ _ => rfl) (fun u v H' Q' _ _ _ hQ => ?_) (fun D H' sm nD eD => ?_)⟩⟩
    · exact ⟨.int u, rfl, .int m, rfl, .int v, rfl, m, v, rfl, rfl, .inl ⟨by omega, by omega⟩, _, _, rfl, rfl, .int p, rfl, _, p, rfl, rfl, hp, hQ⟩
    · refine ⟨D, _, rfl, .inl ⟨.inl (.inl eD), fun l nl => ?_⟩⟩
      exact q _ l (sm.trans (same_upd nl)) (sm.free nl) upd_same

end
end OC

set_option Elab.async false
set_option linter.all false
set_option maxRecDepth 100000
set_option maxHeartbeats 4000000
namespace OC
open PySem PySem.Spec PyProof.Rows L2
section
variable {P : Program} {w : World} {K : PySem.W.Frag} {mg : Str → Option Value} {base : Heap}
def sp_next : Sp := fun vs H Q _ => ∃ (d c e : Addr) (t m : Int), vs = [.ref d, .int m] ∧ Drw H d c e t ∧ t < 1000000 ∧ 0 < m ∧ m < 100000000000000000000 ∧ ∀ H' r, Kept d e H H' → Drw H' d c e (t + 1) → 0 ≤ r → r < m → Q (.int r) H'
theorem ok__law_next (T : Top K mg) : Ok P w K mg base 1 "_law_next" ["_law_drawn", "_law_many"] sp_next := by
  refine T.d__law_next.ok sc__law_next (fun vs H Q E h => ?_) (fun f cdv A outer s H vs Q E hr h => ?_)
  · obtain ⟨d, c, e, t, m, rfl, _⟩ := h
    rfl
  · obtain ⟨d, c, e, t, m, rfl, D0, ht, hm0, hm1, q⟩ := h
    obtain ⟨hd, ⟨cells, rests, h1, h2, hl, h0, h63, hp⟩, cd, ed, ce, t0⟩ := id D0
    refine ⟨_, ((pss_cons (ps_asg (pv 0) (pg_unl (by rfl) (pgs_cons (pg_name (i := 2) sc__law_next.nd rfl (.inl rfl)) (pgs_cons (pg_name (i := 3) sc__law_next.nd rfl (.inl rfl)) (pgs_cons (pg_name (i := 4) sc__law_next.nd rfl (.inl rfl)) pgs_nil)))))
      (pss_cons (ps_set (i := 5) sc__law_next.nd rfl (.inl rfl) (pe_op op_mod (pv 3) (pe_callB call_len_seq (by rfl) T.b_len (by decide +kernel) (pa_cons (pv 2) pa_nil))))
      (pss_cons (ps_asg (pe_op op_add (pv 3) pe_int) (pg_sub (pv 0) pe_int set_list))
      (pss_cons (ps_if (pt_cmpR op_gt (pe_ix ix_list (pv 4) (pv 5) (fun _ _ => rfl)) pe_int (nomark _))
        (pss_cons (ps_set (i := 6) sc__law_next.nd rfl (.inl rfl) (pe_op op_mod (pe_ix ix_list (pv 4) (pv 5) (fun _ _ => rfl)) (pv 1)))
        (pss_cons (ps_asg (pe_op op_fdivW (pe_ix ix_list (pv 4) (pv 5) (fun _ _ => rfl)) (pv 1)) (pg_sub (pv 4) (pv 5) set_list))
        (pss_one (ps_ret (pv 6)))))
        pss_nil)
      (pss_cons (ps_set (i := 7) sc__law_next.nd rfl (.inl rfl) (pe_op op_mod (pe_op op_pow (pe_op op_add (pe_op op_add (pe_op op_mod (pe_ix ix_list (pv 2) (pv 5) (fun _ _ => rfl)) pe_int) (pe_op op_mul pe_int (pv 3))) pe_int) pe_int) pe_int))
      (pss_cons (ps_set (i := 8) sc__law_next.nd rfl (.inl rfl) (pe_op op_mod (pe_op op_pow (pe_op op_add (pe_op op_add (pv 7) (pe_op op_mul (pe_op op_mul pe_int (pv 3)) (pv 3))) pe_int) pe_int) pe_int))
      (pss_one (ps_ret (pe_op op_mod (pe_op op_mod (pe_op op_add (pe_op op_mul (pv 8) pe_int) (pv 7)) pe_int) (pv 1))))))))))), ?_⟩
    refine ⟨.ref d, rfl, d, _, rfl, .inl (.inl hd), rfl, .ref c, [.int t, .ref e], rfl, .int t, [.ref e], rfl, .ref e, [], rfl, rfl, ?_⟩
    refine ⟨.int t, rfl, .ref c, rfl, c, _, rfl, .inl (.inl (.inl h1)), t, (cells.length : Int), rfl, by rw [List.length_map], by omega, ?_⟩
    have z0 : 0 ≤ t % (cells.length : Int) := Int.emod_nonneg _ (by omega)
    have z1 : t % (cells.length : Int) < (cells.length : Int) := Int.emod_lt_of_pos _ (by omega)
    dsimp only
    generalize t % (cells.length : Int) = z at z0 z1 ⊢
    refine ⟨.int t, rfl, t, 1, rfl, rfl, .ref d, rfl, d, _, 1, 1, rfl, rfl, hd, rfl, ?_⟩
    have hd1 : (upd H d (.lst ([V.ref c, .int t, .ref e].set 1 (.int (t + 1))))) d = some (.lst [.ref c, .int (t + 1), .ref e]) := upd_same
    have hc1 : (upd H d (.lst ([V.ref c, .int t, .ref e].set 1 (.int (t + 1))))) c = some (.lst (cells.map V.int)) := by
      rw [upd_ne cd]; exact h1
    have he1 : (upd H d (.lst ([V.ref c, .int t, .ref e].set 1 (.int (t + 1))))) e = some (.lst (rests.map V.int)) := by
      rw [upd_ne ed]; exact h2
    have k1 : Kept d e H (upd H d (.lst ([V.ref c, .int t, .ref e].set 1 (.int (t + 1))))) := fun b o h n _ => by
      rw [upd_ne n]; exact h
    generalize upd H d (.lst ([V.ref c, .int t, .ref e].set 1 (.int (t + 1)))) = H1 at hd1 hc1 he1 k1 ⊢
    have D1 : Drw H1 d c e (t + 1) := ⟨hd1, ⟨cells, rests, hc1, he1, hl, h0, h63, hp⟩, cd, ed, ce, by omega⟩
    obtain ⟨x, mx, gx, ax⟩ := at_int (xs := rests) z0 (by omega)
    obtain ⟨y, my, gy, ay⟩ := at_int (xs := cells) z0 z1
    have x0 := hp x mx
    refine ⟨.ref e, rfl, .int z, rfl, e, _, z, .int x, rfl, rfl, .inl (.inl he1), ax, x, 0, rfl, rfl, _, rfl, ite2 (fun g => ?_) (fun g => ?_)⟩
    · refine ⟨.ref e, rfl, .int z, rfl, e, _, z, .int x, rfl, rfl, .inl (.inl he1), ax, .int m, rfl, x, m, rfl, rfl, hm0, ?_⟩
      refine ⟨.ref e, rfl, .int z, rfl, e, _, z, .int x, rfl, rfl, .inl (.inl he1), ax, .int m, rfl, x, m, rfl, rfl, ⟨hm0, wide_m4 hm0 hm1⟩, .ref e, rfl, .int z, rfl, e, _, z, z.toNat, rfl, rfl, he1, ix_nat z0 (by rw [List.length_map]; omega), ?_⟩
      refine ⟨.int (x % m), rfl, q _ _ (k1.trans fun b o h _ n => ?_) ⟨?_, ⟨cells, rests.set z.toNat (x / m), ?_, ?_, by rw [List.length_set]; exact hl, h0, h63, fun v hv => ?_⟩, cd, ed, ce, by omega⟩ (Int.emod_nonneg _ (by omega)) (Int.emod_lt_of_pos _ hm0)⟩
      · rw [upd_ne n]; exact h
      · rw [upd_ne (Ne.symm ed)]; exact hd1
      · rw [upd_ne ce]; exact hc1
      · rw [upd_same, List.map_set]
      · rcases List.mem_or_eq_of_mem_set hv with h | h
        · exact hp v h
        · rw [h]; exact Int.ediv_nonneg x0 (by omega)
    · refine ⟨.ref c, rfl, .int z, rfl, c, _, z, .int y, rfl, rfl, .inl (.inl hc1), ay, y, 2147483647, rfl, rfl, (show (0 : Int) < 2147483647 by decide), .int t, rfl, 69621, t, rfl, rfl, .inl ⟨by decide, by decide⟩, _, _, rfl, rfl, _, 30269, rfl, rfl, _, 3, rfl, rfl, ⟨by decide, by decide, ?_⟩, _, 2147483629, rfl, rfl, (show (0 : Int) < 2147483629 by decide), ?_⟩
      · have := Int.emod_lt_of_pos y (show (0 : Int) < 2147483647 by decide)
        have := Int.emod_nonneg y (show (2147483647 : Int) ≠ 0 by decide)
        omega
      · dsimp only
        generalize hM : ((y % 2147483647 + 69621 * t + 30269) ^ Int.toNat 3) % 2147483629 = M
        have M0 : 0 ≤ M := by rw [← hM]; exact Int.emod_nonneg _ (by decide)
        have M1 : M < 2147483629 := by rw [← hM]; exact Int.emod_lt_of_pos _ (by decide)
        have tt : t * t ≤ 1000000 * 1000000 := Int.mul_le_mul (by omega) (by omega) t0 (by omega)
        have t00 : 0 ≤ t * t := Int.mul_nonneg t0 t0
        refine ⟨.int M, rfl, .int t, rfl, 6007, t, rfl, rfl, .inl ⟨by decide, by decide⟩, .int t, rfl, 6007 * t, t, rfl, rfl, .inl ⟨by omega, by omega⟩, M, 6007 * t * t, rfl, rfl, M + 6007 * t * t, 17, rfl, rfl, _, 3, rfl, rfl, ⟨by decide, by decide, ?_⟩, _, 2147483587, rfl, rfl, (show (0 : Int) < 2147483587 by decide), ?_⟩
        · rw [Int.mul_assoc]
          omega
        · dsimp only
          generalize ((M + 6007 * t * t + 17) ^ Int.toNat 3) % 2147483587 = N
          exact ⟨.int N, rfl, N, 2147483423, rfl, rfl, .inr ⟨by decide, by decide⟩, .int M, rfl, _, M, rfl, rfl, _, 4611686018427387847, rfl, rfl, (show (0 : Int) < 4611686018427387847 by decide), .int m, rfl, _, m, rfl, rfl, hm0, q H1 _ k1 D1 (Int.emod_nonneg _ (by omega)) (Int.emod_lt_of_pos _ hm0)⟩

def sp_draws (K : PySem.W.Frag) : Sp := fun vs H Q _ => ∃ (a : Addr) (ns : List Int), vs = [.ref a] ∧ SqL K H a (ns.map V.int) ∧ ns.length ≤ 63 ∧ ∀ H' d c e, Same H H' → Drw H' d c e 0 → Q (.ref d) H'
theorem ok__law_draws (T : Top K mg) : Ok P w K mg base 1 "_law_draws" ["_law_script"] (sp_draws K) := by
  refine T.d__law_draws.ok sc__law_draws (fun vs H Q E h => ?_) (fun f cdv A outer s H vs Q E hr h => ?_)
  · obtain ⟨a, ns, rfl, _⟩ := h
    rfl
  · obtain ⟨a, ns, rfl, hS, hl, q⟩ := h
    refine ⟨_, ((pss_cons (ps_set (i := 1) sc__law_draws.nd rfl (.inl rfl) (pe_op op_cat (pe_callTy call_list_of (by rfl) T.b_list (by decide +kernel) (pa_cons (pe_slice sl_list (pv 0) po_none (po_some pe_int)) pa_nil)) (pe_op op_rep (pe_lst (pa_cons pe_int pa_nil)) (pe_callTy call_int1 (by rfl) T.b_int (by decide +kernel) (pa_cons (pe_cmpR op_eq (pe_callB call_len_seq (by rfl) T.b_len (by decide +kernel) (pa_cons (pv 0) pa_nil)) pe_int (nomark _)) pa_nil)))))
      (pss_one (ps_ret (pe_lst (pa_cons (pv 1) (pa_cons pe_int (pa_cons (pe_lc (own := [("_law_cell", 2)]) (g := gName 2) (by rfl) sc__law_draws.nd (pi_list (pv 1)) (blkOk_by (own := [("_law_cell", 2)]) (N := N__law_draws) (sc := defScope s__law_draws) (by decide +kernel)) (fun _ _ _ _ _ => (pg_name (i := 2) sc__law_draws.nd rfl (.inl rfl))) (fun _ _ _ _ _ => pts_nil) (fun _ _ _ _ _ => (pe_op op_mul (pv 2) (pe_callTy call_int1 (by rfl) T.b_int (by decide +kernel) (pa_cons (pe_cmpR op_ge (pv 2) (pe_op op_pow pe_int pe_int) (nomark _)) pa_nil))))) pa_nil)))))))), ?_⟩
    refine ⟨.ref a, rfl, 63, rfl, a, ns.map V.int, rfl, hS, fun l nl => ?_⟩
    rw [cut_upto (by decide), List.take_of_length_le (by rw [List.length_map]; exact hl)]
    generalize h1 : upd H l _ = H1
    obtain ⟨s1, e1⟩ := new_of h1 nl
    refine ⟨l, _, rfl, .inl (.inl (.inl e1)), fun l2 nl2 => ?_⟩
    generalize h2 : upd H1 l2 _ = H2
    obtain ⟨s2, e2⟩ := new_of h2 nl2
    refine ⟨sz1000 (by decide : (1 : Nat) ≤ 1000), fun u nu => ?_⟩
    generalize h3 : upd H2 u _ = H3
    obtain ⟨s3, e3⟩ := new_of h3 nu
    have t3 := (s1.trans s2).trans s3
    refine ⟨.ref a, rfl, a, _, rfl, .inl (sql_same t3 hS), rfl, .inr ⟨_, rfl, ?_⟩⟩
    generalize hk : decide (V.int (((ns.map V.int).length : Nat) : Int) = V.int 0) = kb
    have hkb : kb = true ↔ ns.length = 0 := by
      rw [← hk, decide_eq_true_iff, List.length_map]
      exact ⟨fun z => by have := V.int.inj z; omega, fun z => by rw [z]; rfl⟩
    refine ⟨u, _, _, rfl, rfl, e3, by cases kb <;> decide, by cases kb <;> decide, by cases kb <;> decide, fun p np => ?_⟩
    have ez : (List.replicate (Int.toNat (if kb = true then 1 else 0)) [V.int 0]).flatten = (if kb = true then [(0 : Int)] else []).map V.int := by cases kb <;> rfl
    rw [ez]
    generalize h4 : upd H3 p _ = H4
    obtain ⟨s4, e4⟩ := new_of h4 np
    refine ⟨l2, p, _, _, rfl, rfl, (s3.trans s4) _ _ e2, e4, Nat.le_of_lt (small1000 (by rw [List.length_map, List.length_map]; cases kb <;> simp <;> omega)), fun N nN => ?_⟩
    rw [← List.map_append]
    generalize h5 : upd H4 N _ = H5
    obtain ⟨s5, e5⟩ := new_of h5 nN
    have l0 : 0 < (ns ++ (if kb = true then [(0 : Int)] else [])).length ∧ (ns ++ (if kb = true then [(0 : Int)] else [])).length ≤ 63 := by
      rw [List.length_append]
      cases kb with
      | true =>
        have := hkb.mp rfl
        simp
        omega
      | false =>
        have : ¬ ns.length = 0 := fun z => by
          have := hkb.mpr z
          cases this
        simp
        omega
    generalize ns ++ (if kb = true then [(0 : Int)] else []) = cells at e5 l0
    have t5 := (t3.trans s4).trans s5
    refine ⟨.ref N, rfl, .ref N, rfl, N, rfl, ⟨_, .inl (.inl e5)⟩, lc_listI bigI (.inl (.inl e5)) (by omega) (fun _ => rfl) (fun x H' Q' mx sm hQ => ?_) (fun D H6 s6 nD eD => ?_)⟩
    · refine ⟨.int x, rfl, .int x, rfl, 10, 18, rfl, rfl, ⟨by decide, by decide, by decide⟩, x, _, rfl, rfl, .inr ⟨_, rfl, x, _, rfl, rfl, .inr ?_, hQ⟩⟩
      split <;> exact ⟨by decide, by decide⟩
    refine ⟨sz1000 (by decide : (3 : Nat) ≤ 1000), fun d nd => ?_⟩
    generalize h7 : upd H6 d _ = H7
    obtain ⟨s7, e7⟩ := new_of h7 nd
    refine q H7 d N D ((t5.trans s6).trans s7) ⟨e7, ⟨cells, cells.map bigI, (s6.trans s7) _ _ e5, s7 _ _ eD, (List.length_map _).symm, l0.1, l0.2, fun x hx => ?_⟩, ?_, ?_, ?_, by decide⟩
    · obtain ⟨y, _, rfl⟩ := List.mem_map.mp hx
      exact bigI_pos y
    · exact fun z => by rw [← z, s6 _ _ e5] at nd; cases nd
    · exact fun z => by rw [← z, eD] at nd; cases nd
    · exact fun z => by rw [← z, e5] at nD; cases nD

def sp_row5 : Sp := fun vs H Q _ => ∃ (d c e : Addr) (t p : Int) (n : Nat), vs = [.ref d, .int p, .int (n : Int)] ∧ Drw H d c e t ∧ t ≤ 900000 ∧ 2 ≤ p ∧ p ≤ 1000 ∧ n ≤ 100 ∧ ∀ H' a r, Kept d e H H' → Drw H' d c e (t + 2 * n) → H a = none → H' a = some (.tup (r.map V.int)) → RowsOk p n [r] → Q (.ref a) H'
theorem kept_none5 {d c e l : Addr} {t : Int} {H H' : Hp} (D : Drw H' d c e t) (k : Kept d e H H') (n : H' l = none) : H l = none := by
  cases hl : H l with
  | none => rfl
  | some o =>
    have bl := D.fresh n
    rw [k l o hl (fun z => bl (.inl z)) (fun z => bl (.inr (.inr z)))] at n
    cases n
theorem ok__law_row (T : Top K mg) : Ok P w K mg base 2 "_law_row" ["_law_drawn", "_law_p", "_law_n"] sp_row5 := by
  have O__law_next := ok__law_next (P := P) (w := w) (base := base) T
  refine T.d__law_row.ok sc__law_row (fun vs H Q E h => ?_) (fun f cdv A outer s H vs Q E hr h => ?_)
  · obtain ⟨d, c, e, t, p, n, rfl, _⟩ := h
    rfl
  · obtain ⟨d, c, e, t, p, n, rfl, D0, ht, p2, p1, hn, q⟩ := h
    refine ⟨_, ((pss_cons (ps_set (i := 3) sc__law_row.nd rfl (.inl rfl) (pe_lst pa_nil))
      (pss_cons (ps_for PassesOwn.never (by rfl) (pi_range1 (by rfl) T.b_range (pa_cons (pv 2) pa_nil)) (pg_name (i := 4) sc__law_row.nd rfl (.inl rfl))
        (pss_one (ps_expr (pe_bm PySem.F.plainAttrs_list PySem.F.slot_list_append PySem.F.type_list_append mt_append (pv 3) (pa_cons (pe_ix ix_list (pe_lst (pa_cons pe_int (pa_cons pe_int (pa_cons pe_int (pa_cons (pe_callO O__law_next (hr.mono (by omega)) (by rfl) (pa_cons (pv 0) (pa_cons (pv 1) pa_nil))) pa_nil))))) (pe_callO O__law_next (hr.mono (by omega)) (by rfl) (pa_cons (pv 0) (pa_cons pe_int pa_nil))) (fun _ _ => rfl)) pa_nil)))))
      (pss_one (ps_ret (pe_callTy call_tuple_of (by rfl) T.b_tuple (by decide +kernel) (pa_cons (pv 3) pa_nil))))))), ?_⟩
    refine ⟨Nat.zero_le _, fun L nL => ?_⟩
    generalize h1 : upd H L _ = H1
    obtain ⟨s1, e1⟩ := new_of h1 nL
    have bL := D0.fresh nL
    have D1 := D0.same s1
    refine ⟨.int n, rfl, (n : Int), rfl, by omega, by omega, ?_⟩
    rw [show ((n : Int)).toNat = n from rfl]
    refine for_range (lo := 0) (n := n) (fun i σ H' => Kept d e H H' ∧ ∃ (r : List Int) (y4 : Option V), Drw H' d c e (t + 2 * i) ∧ H' L = some (.lst (r.map V.int)) ∧ r.length = i ∧ (∀ x ∈ r, 0 ≤ x ∧ x < p) ∧ σ = [some (.ref d), some (.int p), some (.int (n : Int)), some (.ref L), y4]) ⟨Kept.of s1, [], none, by rw [show t + 2 * ((0 : Nat) : Int) = t by omega]; exact D1, e1, rfl, fun x hx => (nomatch hx), rfl⟩ (fun i σ H2 hi hW => ?_) (fun σ H2 hW => ?_)
    · obtain ⟨k2, r, y4, D2, eL, lr, ok, rfl⟩ := hW
      refine ⟨.ref L, rfl, .inl ⟨rfl, _, .inl (.inl eL)⟩, .ref d, rfl, .int p, rfl, d, c, e, _, p, rfl, D2, by omega, by omega, by omega, fun H3 x k3 D3 x0 x1 => ?_⟩
      refine ⟨sz1000 (by decide : (4 : Nat) ≤ 1000), fun o no => ?_⟩
      dsimp only
      generalize h4 : upd H3 o _ = H4
      obtain ⟨s4, e4⟩ := new_of h4 no
      have bo := D3.fresh no
      refine ⟨.ref d, rfl, d, c, e, _, 4, rfl, D3.same s4, by omega, by decide, by decide, fun H5 z k5 D5 z0 z1 => ?_⟩
      obtain ⟨y, my, _, hy⟩ := at_int (xs := [0, 0, 1, x]) z0 z1
      have hy01 : 0 ≤ y ∧ y < p := by
        simp only [List.mem_cons, List.not_mem_nil, or_false] at my
        omega
      have k25 : Kept d e H2 H5 := k3.trans ((Kept.of s4).trans k5)
      have eL5 := Drw.lst (c := c) k25 bL eL
      refine ⟨o, _, z, .int y, rfl, rfl, .inl (.inl (Drw.lst (c := c) k5 bo e4)), hy, L, _, _, rfl, rfl, eL5, by rw [List.length_map]; exact small1000 (by omega), (k2.trans k25).mut nL, r ++ [y], _, ?_, ?_, by rw [List.length_append, lr]; rfl, fun v hv => ?_, rfl⟩
      · have := D5.mut (o := .lst (r.map V.int ++ [.int y])) bL
        rw [show t + 2 * ((i + 1 : Nat) : Int) = t + 2 * (i : Int) + 1 + 1 by omega]
        exact this
      · rw [upd_same, List.map_append]
        rfl
      · rcases List.mem_append.mp hv with hv | hv
        · exact ok v hv
        · rw [List.mem_singleton.mp hv]
          exact hy01
    · obtain ⟨k2, r, y4, D2, eL, lr, ok, rfl⟩ := hW
      refine ⟨.ref L, rfl, L, _, rfl, .inl ⟨.inl (.inl eL), fun o no => ?_⟩⟩
      have s3 := same_upd (o := .tup (r.map V.int)) no
      exact q _ o r (k2.trans (Kept.of s3)) (D2.same s3) (kept_none5 D2 k2 no) upd_same (rowsOk_one ⟨lr, ok⟩)

def stepD (b : Nat × List Int) : PyData := .tuple [.int (b.1 : Int), rowD b.2]
theorem noL_steps : ∀ st : List (Nat × List Int), noLAll (st.map stepD) = true
  | [] => rfl
  | b :: st => by
    rw [List.map_cons]
    simp only [noLAll, stepD, noL, noL_row, Bool.true_and, Bool.and_true]
    exact noL_steps st
theorem dpAll_step {K : PySem.W.Frag} {H : Hp} {vs : List V} {st : List (Nat × List Int)} {i : Nat} {v : V} (h : DpAll K H vs (st.map stepD)) (g : vs[i]? = some v) : ∃ (o a : Addr) (b : Nat × List Int), v = .ref o ∧ st[i]? = some b ∧ b ∈ st ∧ SqT K H o [.int (b.1 : Int), .ref a] ∧ SqT K H a (b.2.map V.int) := by
  obtain ⟨d, g, _, dp⟩ := dpAll_get h g
  rw [List.getElem?_map] at g
  obtain ⟨x, hx, rfl⟩ := Option.map_eq_some_iff.mp g
  unfold stepD at dp
  cases dp with
  | tup h1 h2 =>
    cases h2 with
    | cons a1 h2 =>
      cases a1
      cases h2 with
      | cons a2 h2 =>
        cases h2
        obtain ⟨a, e, hs⟩ := dp_row a2
        subst e
        exact ⟨_, a, x, rfl, hx, List.mem_of_getElem? hx, h1, hs⟩
theorem offR_snoc {p : Int} : ∀ (st : List (Nat × List Int)) (b : Nat × List Int) (r : List Int), offR p (st ++ [b]) r = plusR p (offR p st r) b.2 (p - (offR p st r).getD b.1 0)
  | [], _, _ => rfl
  | c :: st, b, r => offR_snoc st b _
def sp_less5 (K : PySem.W.Frag) : Sp := fun vs H Q _ => ∃ (a r : Addr) (ws : List V) (st : List (Nat × List Int)) (x : List Int) (p : Int) (n : Nat), vs = [.int p, .ref a, .ref r] ∧ H a = some (.lst ws) ∧ DpAll K H ws (st.map stepD) ∧ (∀ b ∈ st, b.1 < n ∧ b.2.length = n) ∧ SqT K H r (x.map V.int) ∧ RowsOk p n [x] ∧ 2 ≤ p ∧ p ≤ 1000 ∧ n ≤ 100 ∧
  ∀ H' l, Same H H' → SqT K H' l ((offR p st x).map V.int) → Q (.ref l) H'
theorem ok__law_less (T : Top K mg) : Ok P w K mg base 2 "_law_less" ["_law_p", "_law_steps_here", "_law_row_here"] (sp_less5 K) := by
  have O__law_plus := ok__law_plus (P := P) (w := w) (base := base) T
  refine T.d__law_less.ok sc__law_less (fun vs H Q E h => ?_) (fun f cdv A outer s H vs Q E hr h => ?_)
  · obtain ⟨a, r, ws, st, x, p, n, rfl, _⟩ := h
    rfl
  · obtain ⟨a, r, ws, st, x, p, n, rfl, ha, dw, okst, hr', okx, p2, p1, hn, q⟩ := h
    refine ⟨_, ((pss_cons (ps_for PassesOwn.never (by rfl) (pi_list (pv 1)) (pg_tup (by rfl) (pgs_cons (pg_name (i := 3) sc__law_less.nd rfl (.inl rfl)) (pgs_cons (pg_name (i := 4) sc__law_less.nd rfl (.inl rfl)) pgs_nil)))
        (pss_one (ps_set (i := 2) sc__law_less.nd rfl (.inl rfl) (pe_callO O__law_plus (hr.mono (by omega)) (by rfl) (pa_cons (pv 0) (pa_cons (pv 2) (pa_cons (pv 4) (pa_cons (pe_op op_sub (pv 0) (pe_ix ix_tup (pv 2) (pv 3) (fun _ _ => rfl))) pa_nil))))))))
      (pss_one (ps_ret (pv 2))))), ?_⟩
    have lw := dpAll_len dw
    rw [List.length_map] at lw
    refine ⟨.ref a, rfl, a, rfl, ⟨_, .inl (.inl ha)⟩, for_it (walk_list (K := K) (a := a) (xs := ws)) (fun i σ H' => Same H H' ∧ ∃ (l : Addr) (y3 y4 : Option V), SqT K H' l ((offR p (st.take i) x).map V.int) ∧ σ = [some (.int p), some (.ref a), some (.ref l), y3, y4]) ⟨Same.refl _, r, none, none, hr', rfl⟩ (fun i σ H' _ hW => .inl (.inl (hW.1 _ _ ha))) (fun i v σ H1 H2 hi hW hY => ?_) (fun σ H1 hW => ?_)⟩
    · obtain ⟨rfl, hv⟩ := hY
      obtain ⟨s1, l, y3, y4, hl, rfl⟩ := hW
      obtain ⟨o, a', b, rfl, gb, mb, ho, ha'⟩ := dpAll_step (dpAll_same s1 _ _ dw) hv
      obtain ⟨b1, b2⟩ := okst b mb
      have okr := offR_ok (p := p) (by omega) (st.take i) x (fun t ht => (okst t (List.mem_of_mem_take ht)).2) okx _ List.mem_cons_self
      have es : offR p (st.take (i + 1)) x = plusR p (offR p (st.take i) x) b.2 (p - (offR p (st.take i) x).getD b.1 0) := by
        rw [List.take_add_one, gb]
        exact offR_snoc _ _ _
      generalize offR p (st.take i) x = y at hl okr es
      have yb := okr.2 (y.getD b.1 0) (by rw [gd_lt (by rw [okr.1]; exact b1)]; exact List.getElem_mem _)
      refine ⟨o, _, rfl, ho, rfl, _, _, rfl, _, _, rfl, rfl, ?_⟩
      refine ⟨.int p, rfl, .ref l, rfl, .ref a', rfl, .int p, rfl, .ref l, rfl, .int (b.1 : Nat), rfl, l, _, _, _, rfl, rfl, hl, at_row (by rw [okr.1]; exact b1), p, _, rfl, rfl, l, a', y, b.2, p, _, rfl, hl, ha', by omega, by omega, by omega, by omega, fun H3 l3 s3 n3 e3 => ?_⟩
      refine ⟨s1.trans s3, l3, _, _, .inl (.inl ?_), rfl⟩
      rw [es]
      exact e3
    · obtain ⟨s1, l, y3, y4, hl, rfl⟩ := hW
      rw [List.take_of_length_le (by omega)] at hl
      exact ⟨.ref l, rfl, q H1 l s1 hl⟩

def sp_steps5 (K : PySem.W.Frag) : Sp := fun vs H Q _ => ∃ (a : Addr) (rows : List (List Int)) (p : Int) (n : Nat), vs = [.int p, .ref a] ∧ RowsAt K H a rows ∧ RowsOk p n rows ∧ Fld p ∧ p ≤ 1000 ∧ n ≤ 100 ∧ rows.length ≤ 100 ∧
  ∀ H' l ws st, Same H H' → H l = none → H' l = some (.lst ws) → DpAll K H' ws (st.map stepD) → StepsOk p n rows st → st.length ≤ rows.length → st.length = (plainR p n rows).length → Q (.ref l) H'
theorem fp_none {r : List Int} (h : ¬ fpR r < r.length) : ∀ x ∈ r, x = 0 := fpR_all (Nat.le_antisymm (fpR_le r) (Nat.not_lt.mp h))
theorem ok__law_steps (T : Top K mg) : Ok P w K mg base 3 "_law_steps" ["_law_p", "_law_rows"] (sp_steps5 K) := by
  have O__law_less := ok__law_less (P := P) (w := w) (base := base) T
  refine T.d__law_steps.ok sc__law_steps (fun vs H Q E h => ?_) (fun f cdv A outer s H vs Q E hr h => ?_)
  · obtain ⟨a, rows, p, n, rfl, _⟩ := h
    rfl
  · obtain ⟨a, rows, p, n, rfl, hA, ok, hF, p1, hn, lr, q⟩ := h
    refine ⟨_, ((pss_cons (ps_set (i := 2) sc__law_steps.nd rfl (.inl rfl) (pe_lst pa_nil))
      (pss_cons (ps_for PassesOwn.never (by rfl) (pi_tup (pv 1)) (pg_name (i := 3) sc__law_steps.nd rfl (.inr rfl))
        (pss_cons (ps_set (i := 3) sc__law_steps.nd rfl (.inr rfl) (pe_callO O__law_less (hr.mono (by omega)) (by rfl) (pa_cons (pv 0) (pa_cons (pv 2) (pa_cons (pv 3) pa_nil)))))
        (pss_cons (ps_set (i := 6) sc__law_steps.nd rfl (.inr rfl) (pe_lc (own := [("_law_spot", 4), ("_law_rest", 5)]) (g := gTup K 2 (gCons (gName 4) (gCons (gName 5) gNil))) (by rfl) sc__law_steps.nd (pi_enumT (by rfl) T.b_enumerate (pa_cons (pv 3) pa_nil)) (blkOk_by (own := [("_law_spot", 4), ("_law_rest", 5)]) (N := N__law_steps) (sc := defScope s__law_steps) (by decide +kernel)) (fun _ _ _ _ _ => (pg_tup (by rfl) (pgs_cons (pg_name (i := 4) sc__law_steps.nd rfl (.inl rfl)) (pgs_cons (pg_name (i := 5) sc__law_steps.nd rfl (.inl rfl)) pgs_nil)))) (fun _ _ _ _ _ => (pts_one (pt_cmpR op_gt (pv 5) pe_int (nomark _)))) (fun _ _ _ _ _ => (pv 4))))
        (pss_one (ps_if (pt_cmpR (op_neNil hr.units) (pv 6) (pe_lst pa_nil) (nomark _))
          (pss_cons (ps_set (i := 8) sc__law_steps.nd rfl (.inr rfl) (pe_ix ix_list (pe_lc (own := [("_law_b", 7)]) (g := gName 7) (by rfl) sc__law_steps.nd (pi_range1 (by rfl) T.b_range (pa_cons (pv 0) pa_nil)) (blkOk_by (own := [("_law_b", 7)]) (N := N__law_steps) (sc := defScope s__law_steps) (by decide +kernel)) (fun _ _ _ _ _ => (pg_name (i := 7) sc__law_steps.nd rfl (.inl rfl))) (fun _ _ _ _ _ => (pts_one (pt_cmpR op_eq (pe_op op_mod (pe_op op_mul (pe_ix (show IxR _ (rIxT K) from ix_tup) (pv 3) (pe_ix (show IxR _ (rIxL K) from ix_list) (pv 6) pe_int (fun _ _ => rfl)) (fun _ _ => rfl)) (pv 7)) (pv 0)) pe_int (nomark _)))) (fun _ _ _ _ _ => (pv 7))) pe_int (fun _ _ => rfl)))
          (pss_one (ps_expr (pe_bm PySem.F.plainAttrs_list PySem.F.slot_list_append PySem.F.type_list_append mt_append (pv 2) (pa_cons (pe_tup (pa_cons (pe_ix ix_list (pv 6) pe_int (fun _ _ => rfl)) (pa_cons (pe_callTy call_tuple_of (by rfl) T.b_tuple (by decide +kernel) (pa_cons (pe_lc (own := [("_law_rest", 5)]) (g := gName 5) (by rfl) sc__law_steps.nd (pi_tup (pv 3)) (blkOk_by (own := [("_law_rest", 5)]) (N := N__law_steps) (sc := defScope s__law_steps) (by decide +kernel)) (fun _ _ _ _ _ => (pg_name (i := 5) sc__law_steps.nd rfl (.inl rfl))) (fun _ _ _ _ _ => pts_nil) (fun _ _ _ _ _ => (pe_op op_mod (pe_op op_mul (pv 5) (pv 8)) (pv 0)))) pa_nil)) pa_nil))) pa_nil)))))
          pss_nil)))))
      (pss_one (ps_ret (pv 2)))))), ?_⟩
    have p2 := hF.1
    obtain ⟨wr, er, dr⟩ := hA
    have lw := rows_len dr
    refine ⟨Nat.zero_le _, fun L nL => ?_⟩
    generalize h1 : upd H L _ = H1
    obtain ⟨s1, e1⟩ := new_of h1 nL
    refine ⟨.ref a, rfl, a, rfl, ⟨_, Same.tup s1 er⟩, for_it (walk_tup (K := K) (a := a) (xs := wr)) (fun i σ H' => Same H H' ∧ ∃ (ws : List V) (st : List (Nat × List Int)) (y3 y4 y5 y6 y7 y8 : Option V), H' L = some (.lst ws) ∧ DpAll K H' ws (st.map stepD) ∧ StepsOk p n (rows.take i) st ∧ st.length ≤ i ∧ st.length = (plainR p n (rows.take i)).length ∧ σ = [some (.int p), some (.ref a), some (.ref L), y3, y4, y5, y6, y7, y8]) ⟨s1, [], [], none, none, none, none, none, none, e1, .nil, StepsOk.nil p n, Nat.le_refl _, by rw [List.take_zero, (PFR.nil hF n).2]; rfl, rfl⟩ (fun i σ H' _ hW => Same.tup hW.1 er) (fun i v σ H2 H2' hi hW hY => ?_) (fun σ H2 hW => ?_)⟩
    · obtain ⟨rfl, hv⟩ := hY
      obtain ⟨s2, ws, st, y3, y4, y5, y6, y7, y8, eL, dw, So, ls, ld, rfl⟩ := hW
      obtain ⟨b, x, rfl, gx, mx, hb⟩ := dpAll_row (dpAll_same s2 _ _ dr) hv
      have okx : RowsOk p n [x] := rowsOk_one (ok x mx)
      have et : rows.take (i + 1) = rows.take i ++ [x] := by
        rw [List.take_add_one, gx]
        rfl
      refine ⟨.int p, rfl, .ref L, rfl, .ref b, rfl, L, b, ws, st, x, p, n, rfl, eL, dw, fun t ht => ⟨So.lt t ht, So.len t ht⟩, hb, okx, by omega, p1, hn, fun H3 l s3 hl => ?_⟩
      have okr := offR_ok (p := p) (by omega) st x So.len okx _ List.mem_cons_self
      have hsame := So.same hF okx
      have hhas := So.has hF okx
      have okt : RowsOk p n (rows.take i) := fun r hr => ok r (List.mem_of_mem_take hr)
      have gro := plain_one_more hF okt okx
      rw [← et] at gro
      have hmore := So.more hF okx
      generalize offR p st x = r at hl okr hsame hmore hhas
      obtain ⟨lrn, okr⟩ := okr
      -- the places
      refine ⟨.ref l, rfl, l, _, rfl, hl, fun D nD => ?_⟩
      refine lc_it (walk_enumT (K := K) (a := l) (xs := r.map V.int)) (fun k H4 => Same H3 H4 ∧ H4 D = some (.lst ((nzsR r k).map fun (i : Nat) => V.int (i : Int)))) ⟨same_upd nD, upd_same⟩ (fun k H' _ hP => Same.tup hP.1 hl) (fun k v H4 H5 hk hP hY => ?_) (fun H4 hP => ?_)
      · obtain ⟨s4, eD⟩ := hP
        obtain ⟨Ta, x1, x2, rfl, nT, rfl, g1, g2⟩ := hY
        rw [List.length_map] at hk
        have g1 : x1 = V.int (k : Nat) := (Option.some.inj g1).symm
        have g2 : (r.map V.int)[k]? = some x2 := g2
        rw [List.getElem?_map, List.getElem?_eq_getElem hk] at g2
        have g2 : x2 = V.int r[k] := (Option.some.inj g2).symm
        subst g1 g2
        have sT : Same H4 (upd H4 Ta (.tup [.int (k : Nat), .int r[k]])) := same_upd nT
        have eDT := sT _ _ eD
        refine ⟨Ta, [.int (k : Nat), .int r[k]], rfl, .inl (.inl upd_same), rfl, .int (k : Nat), [.int r[k]], rfl, .int r[k], [], rfl, rfl, rfl, ?_⟩
        refine ⟨.int r[k], rfl, r[k], 0, rfl, rfl, _, rfl, ?_⟩
        have gk : r.getD k 0 = r[k] := gd_lt hk
        have bk := okr r[k] (List.getElem_mem hk)
        have tk : nzsR r (k + 1) = nzsR r k ++ (if r.getD k 0 ≠ 0 then [k] else []) := by
          unfold nzsR
          rw [List.range_succ, List.filter_append]
          congr 1
          by_cases h0 : r.getD k 0 = 0
          · rw [if_neg (fun z => z h0)]
            exact List.filter_cons_of_neg (by rw [h0]; decide)
          · rw [if_pos h0]
            exact List.filter_cons_of_pos (decide_eq_true h0)
        by_cases h0 : r.getD k 0 = 0
        · rw [decide_eq_false (show ¬ r[k] > 0 by omega)]
          refine iteF ⟨s4.trans sT, ?_⟩
          rw [eDT, tk, if_neg (fun z => z h0), List.append_nil]
        · rw [decide_eq_true (show r[k] > 0 by omega)]
          refine iteT ⟨.int (k : Nat), rfl, _, eDT, ?_, same_mut (s4.trans sT) nD, ?_⟩
          · rw [List.length_map]
            refine Nat.lt_of_le_of_lt (List.length_filter_le _ _) ?_
            rw [List.length_range]
            exact small1000 (by omega)
          · rw [upd_same, tk, if_pos h0, List.map_append]
            rfl
      obtain ⟨s4, eD⟩ := hP
      rw [List.length_map] at eD
      refine ⟨.ref D, rfl, Nat.zero_le _, fun o no => ?_⟩
      generalize h5 : upd H4 o _ = H5
      obtain ⟨s5, e5⟩ := new_of h5 no
      have s25 := s3.trans (s4.trans s5)
      have eL5 := s25 _ _ eL
      have dw5 := dpAll_same s25 _ _ dw
      have lws := dpAll_len dw5
      rw [List.length_map] at lws
      by_cases hlt : fpR r < r.length
      · have hd := nzs_head hlt
        generalize nzsR r r.length = zs at eD hd
        cases zs with
        | nil => cases hd
        | cons z zs =>
          have hd : z = fpR r := Option.some.inj hd
          subst hd
          have eD5 := s5 _ _ eD
          refine ⟨D, o, _, rfl, rfl, eD5, e5, _, rfl, iteT ?_⟩
          have aj : atI (((fpR r :: zs).map fun (i : Nat) => V.int (i : Int))) 0 = some (.int (fpR r : Nat)) := at_of (j := 0) rfl rfl
          have nz := fpR_at hlt
          have bz := okr (r.getD (fpR r) 0) (by rw [gd_lt hlt]; exact List.getElem_mem _)
          have hl5 := Same.tup (s4.trans s5) hl
          generalize ha0 : r.getD (fpR r) 0 = a0 at nz bz
          refine ⟨.int p, rfl, p, rfl, by omega, by omega, fun B nB => ?_⟩
          refine lc_range (lo := 0) (n := p.toNat) (fun k H' => Same H5 H' ∧ H' B = some (.lst ((((List.range k).map fun (b : Nat) => (b : Int)).filter fun b => decide (a0 * b % p = 1)).map V.int))) ⟨same_upd nB, upd_same⟩ (fun k H6 hk hP => ?_) (fun H6 hP => ?_)
          · obtain ⟨s6, eB⟩ := hP
            have tk : ((List.range (k + 1)).map fun (b : Nat) => (b : Int)).filter (fun b => decide (a0 * b % p = 1)) = ((List.range k).map fun (b : Nat) => (b : Int)).filter (fun b => decide (a0 * b % p = 1)) ++ (if a0 * (k : Int) % p = 1 then [(k : Int)] else []) := by
              rw [List.range_succ, List.map_append, List.filter_append]
              congr 1
              by_cases hq : a0 * (k : Int) % p = 1
              · simp [hq]
              · simp [hq]
            refine ⟨rfl, .ref l, rfl, .ref D, rfl, D, _, 0, .int (fpR r : Nat), rfl, rfl, .inl (.inl (s6 _ _ eD5)), aj, l, _, _, .int a0, rfl, rfl, Same.tup s6 hl5, by rw [← ha0]; exact at_row hlt, .int (0 + k), rfl, a0, 0 + k, rfl, rfl, .inl ⟨by omega, by omega⟩, .int p, rfl, _, p, rfl, rfl, by omega, rfl, _, rfl, ?_⟩
            rw [show (0 : Int) + (k : Int) = (k : Int) by omega]
            by_cases hq : a0 * (k : Int) % p = 1
            · rw [decide_eq_true (congrArg V.int hq)]
              refine iteT ⟨.int k, rfl, _, eB, ?_, same_mut s6 nB, ?_⟩
              · rw [List.length_map]
                refine Nat.lt_of_le_of_lt (List.length_filter_le _ _) ?_
                rw [List.length_map, List.length_range]
                exact small1000 (by omega)
              · rw [upd_same, tk, if_pos hq, List.map_append]
                rfl
            · rw [decide_eq_false (fun z => hq (V.int.inj z))]
              refine iteF ⟨s6, ?_⟩
              rw [eB, tk, if_neg hq, List.append_nil]
          obtain ⟨s6, eB⟩ := hP
          have hc := ctr_ok hF (show 1 ≤ a0 by omega) bz.2
          have e0 : atI ((((List.range p.toNat).map fun (b : Nat) => (b : Int)).filter fun b => decide (a0 * b % p = 1)).map V.int) 0 = some (.int (ctr p a0)) := by
            unfold ctr at hc ⊢
            cases hl : ((List.range p.toNat).map fun (b : Nat) => (b : Int)).filter (fun b => decide (a0 * b % p = 1)) with
            | nil =>
              obtain ⟨b, b1, b2, b3⟩ := hF.2 a0 (by omega) bz.2
              have : b ∈ ((List.range p.toNat).map fun (b : Nat) => (b : Int)).filter (fun b => decide (a0 * b % p = 1)) := List.mem_filter.mpr ⟨List.mem_map.mpr ⟨b.toNat, List.mem_range.mpr (by omega), by omega⟩, decide_eq_true b3⟩
              rw [hl] at this
              cases this
            | cons x r => exact at_of (j := 0) rfl rfl
          refine ⟨B, _, 0, _, rfl, rfl, .inl (.inl eB), e0, ?_⟩
          have eL6 := s6 _ _ eL5
          have hl6 := Same.tup s6 hl5
          refine ⟨.ref L, rfl, .inl ⟨rfl, _, .inl (.inl eL6)⟩, .ref D, rfl, D, _, 0, .int (fpR r : Nat), rfl, rfl, .inl (.inl (s6 _ _ eD5)), aj, .ref l, rfl, l, rfl, ⟨_, hl6⟩, lc_tupI (fun v => v * ctr p a0 % p) hl6 (by omega) (fun _ => rfl) (fun v H7 Q' mv s7 hQ => ?_) (fun M H7 s7 nM eM => ?_)⟩
          · have bv := okr v mv
            exact ⟨.int v, rfl, .int (ctr p a0), rfl, v, _, rfl, rfl, .inl ⟨by omega, by omega⟩, .int p, rfl, _, p, rfl, rfl, by omega, hQ⟩
          refine ⟨M, _, rfl, .inl ⟨.inl (.inl eM), fun o8 n8 => ?_⟩⟩
          dsimp only
          generalize h8 : upd H7 o8 _ = H8
          obtain ⟨s8, e8⟩ := new_of h8 n8
          refine ⟨sz1000 (by decide : (2 : Nat) ≤ 1000), fun o9 n9 => ?_⟩
          generalize h9 : upd H8 o9 _ = H9
          obtain ⟨s9, e9⟩ := new_of h9 n9
          have s69 := s7.trans (s8.trans s9)
          have eL9 := s69 _ _ eL6
          have tk : Tk H9 (upd H9 L (.lst (ws ++ [.ref o9]))) := (Tk.refl _).mut eL9
          have eo : (r.map fun v => v * ctr p a0 % p) = ownR p r (fpR r) := by
            unfold ownR
            rw [ha0]
            exact List.map_congr_left fun v _ => by rw [Int.mul_comm]
          rw [eo] at e8
          refine ⟨L, ws, .ref o9, rfl, rfl, eL9, small1000 (by omega), same_mut (s2.trans (s25.trans (s6.trans s69))) nL, ws ++ [.ref o9], st ++ [stepOf p r], _, _, _, _, _, _, upd_same, ?_, by rw [et]; exact hmore (by omega), by rw [List.length_append]; simp only [List.length_cons, List.length_nil]; omega, ?_, rfl⟩
          rotate_left
          · have nh : ¬ hasR p n (rows.take i) x = true := fun z => by
              have := hhas.mpr ((hasR_in hF okt okx).mp z) (r.getD (fpR r) 0) (by rw [gd_lt hlt]; exact List.getElem_mem _)
              omega
            rw [gro, if_neg nh, List.length_append, ld]
            rfl
          rw [List.map_append]
          exact dpAll_append (dpAll_tk tk _ _ (noL_steps st) (dpAll_same (s6.trans s69) _ _ dw5)) (.cons (.tup (xs := [.int (fpR r : Nat), .ref o8]) (tk _ _ _ (.inl (.inl e9))) (.cons (.int _) (.cons (.tup (tk _ _ _ (.inl (.inl (s9 _ _ e8)))) (dpAll_ints _)) .nil))) .nil)
      · have z0 := fp_none hlt
        have zs : nzsR r r.length = [] := by
          unfold nzsR
          refine List.filter_eq_nil_iff.mpr fun i hi => ?_
          have hi := List.mem_range.mp hi
          rw [gd_lt hi, z0 _ (List.getElem_mem hi)]
          decide
        rw [zs] at eD
        refine ⟨D, o, _, rfl, rfl, s5 _ _ eD, e5, _, rfl, iteF ⟨s2.trans s25, ws, st, _, _, _, _, _, _, eL5, dw5, by rw [et]; exact hsame z0, by omega, by rw [gro, if_pos ((hasR_in hF okt okx).mpr (hhas.mp z0)), ld]; rfl, rfl⟩⟩
    · obtain ⟨s2, ws, st, y3, y4, y5, y6, y7, y8, eL, dw, So, ls, ld, rfl⟩ := hW
      rw [List.take_of_length_le (by omega)] at So ld
      exact ⟨.ref L, rfl, q H2 L ws st s2 nL eL dw So (by omega) ld⟩

end
end OC

set_option Elab.async false
set_option linter.all false
set_option maxRecDepth 100000
set_option maxHeartbeats 4000000
namespace OC
open PySem PySem.Spec PyProof.Rows L2
section
variable {P : Program} {w : World} {K : PySem.W.Frag} {mg : Str → Option Value} {base : Heap}
def sp_size5 (K : PySem.W.Frag) : Sp := fun vs H Q _ => ∃ (a : Addr) (rows : List (List Int)) (p : Int) (n : Nat), vs = [.int p, .ref a] ∧ RowsAt K H a rows ∧ RowsOk p n rows ∧ Fld p ∧ p ≤ 1000 ∧ n ≤ 100 ∧ rows.length ≤ 100 ∧ ∀ H', Same H H' → Q (.int ((plainR p n rows).length : Nat)) H'
theorem ok__law_size (T : Top K mg) : Ok P w K mg base 4 "_law_size" ["_law_p", "_law_rows"] (sp_size5 K) := by
  have O__law_steps := ok__law_steps (P := P) (w := w) (base := base) T
  refine T.d__law_size.ok sc__law_size (fun vs H Q E h => ?_) (fun f cdv A outer s H vs Q E hr h => ?_)
  · obtain ⟨a, rows, p, n, rfl, _⟩ := h
    rfl
  · obtain ⟨a, rows, p, n, rfl, hA, ok, hF, p1, hn, lr, q⟩ := h
    refine ⟨_, ((pss_one (ps_ret (pe_callB call_len_seq (by rfl) T.b_len (by decide +kernel) (pa_cons (pe_callO O__law_steps (hr.mono (by omega)) (by rfl) (pa_cons (pv 0) (pa_cons (pv 1) pa_nil))) pa_nil))))), ?_⟩
    refine ⟨.int p, rfl, .ref a, rfl, a, rows, p, n, rfl, hA, ok, hF, p1, hn, lr, fun H1 l ws st s1 n1 e1 d1 So ls ld => ⟨l, ws, rfl, .inl (.inl (.inl e1)), ?_⟩⟩
    have lw := dpAll_len d1
    rw [List.length_map] at lw
    rw [lw, ld]
    exact q H1 s1

def freeB (p : Int) (n : Nat) (room rows : List (List Int)) : Bool := decide ((plainR p n (room ++ rows)).length = (plainR p n room).length + rows.length)
def sp_free5 (K : PySem.W.Frag) : Sp := fun vs H Q _ => ∃ (a b : Addr) (room rows : List (List Int)) (p : Int) (n : Nat), vs = [.int p, .ref a, .ref b] ∧ RowsAt K H a room ∧ (RowsAt K H b rows ∨ ∃ wb, H b = some (.lst wb) ∧ DpAll K H wb (rows.map rowD)) ∧ RowsOk p n room ∧ RowsOk p n rows ∧ Fld p ∧ p ≤ 1000 ∧ n ≤ 100 ∧ room.length ≤ 50 ∧ rows.length ≤ 50 ∧ ∀ H', Same H H' → Q (.bl (freeB p n room rows)) H'
theorem ok__law_free (T : Top K mg) : Ok P w K mg base 5 "_law_free" ["_law_p", "_law_room", "_law_rows"] (sp_free5 K) := by
  have O__law_size := ok__law_size (P := P) (w := w) (base := base) T
  refine T.d__law_free.ok sc__law_free (fun vs H Q E h => ?_) (fun f cdv A outer s H vs Q E hr h => ?_)
  · obtain ⟨a, b, room, rows, p, n, rfl, _⟩ := h
    rfl
  · obtain ⟨a, b, room, rows, p, n, rfl, hA, hB, ok1, ok2, hF, p1, hn, l1, l2, q⟩ := h
    refine ⟨_, ((pss_one (ps_ret (pe_cmpR op_eq (pe_callO O__law_size (hr.mono (by omega)) (by rfl) (pa_cons (pv 0) (pa_cons (pe_op op_catB (pe_callTy call_tuple_of (by rfl) T.b_tuple (by decide +kernel) (pa_cons (pv 1) pa_nil)) (pe_callTy call_tuple_of (by rfl) T.b_tuple (by decide +kernel) (pa_cons (pv 2) pa_nil))) pa_nil))) (pe_op op_add (pe_callO O__law_size (hr.mono (by omega)) (by rfl) (pa_cons (pv 0) (pa_cons (pv 1) pa_nil))) (pe_callB call_len_seq (by rfl) T.b_len (by decide +kernel) (pa_cons (pv 2) pa_nil))) (nomark _))))), ?_⟩
    obtain ⟨wa, ea, da⟩ := id hA
    have la := rows_len da
    have val : ∀ H', Same H H' → Q (.bl (decide (V.int ((plainR p n (room ++ rows)).length : Nat) = V.int (((plainR p n room).length : Nat) + (rows.length : Nat) : Int)))) H' := fun H' s' => by
      have := q H' s'
      unfold freeB at this
      rw [show decide (V.int ((plainR p n (room ++ rows)).length : Nat) = V.int (((plainR p n room).length : Nat) + (rows.length : Nat) : Int)) = decide ((plainR p n (room ++ rows)).length = (plainR p n room).length + rows.length) from decide_eq_decide.mpr ⟨fun z => by injection z; omega, fun z => by rw [z]; rfl⟩]
      exact this
    rcases hB with ⟨wb, eb, db⟩ | ⟨wb, eb, db⟩
    · have lb := rows_len db
      refine ⟨.int p, rfl, .ref a, rfl, a, _, rfl, .inr ⟨ea, .ref b, rfl, b, _, rfl, .inr ⟨eb, a, b, _, _, rfl, rfl, ea, eb, sz1000 (by omega), fun l H1 s1 h1 => ?_⟩⟩⟩
      have d1 := dpAll_append (dpAll_same s1 _ _ da) (dpAll_same s1 _ _ db)
      rw [← List.map_append] at d1
      refine ⟨l, room ++ rows, p, n, rfl, ⟨_, h1, d1⟩, rowsOk_app ok1 ok2, hF, p1, hn, by rw [List.length_append]; omega, fun H2 s2 => ?_⟩
      have s12 := s1.trans s2
      refine ⟨.int p, rfl, .ref a, rfl, a, room, p, n, rfl, RowsAt.same s12 hA, ok1, hF, p1, hn, by omega, fun H3 s3 => ?_⟩
      have s13 := s12.trans s3
      refine ⟨.ref b, rfl, b, _, rfl, .inr (Same.tup s13 eb), _, _, rfl, rfl, rfl, ?_⟩
      rw [lb]
      exact val H3 s13
    · have lb := rows_len db
      refine ⟨.int p, rfl, .ref a, rfl, a, _, rfl, .inr ⟨ea, .ref b, rfl, b, _, rfl, .inl ⟨.inl (.inl eb), fun o no => ?_⟩⟩⟩
      generalize h0 : upd H o _ = H0
      obtain ⟨s0, e0⟩ := new_of h0 no
      refine ⟨a, o, _, _, rfl, rfl, Same.tup s0 ea, .inl (.inl e0), sz1000 (by omega), fun l H1 s1 h1 => ?_⟩
      have s01 := s0.trans s1
      have d1 := dpAll_append (dpAll_same s01 _ _ da) (dpAll_same s01 _ _ db)
      rw [← List.map_append] at d1
      refine ⟨l, room ++ rows, p, n, rfl, ⟨_, h1, d1⟩, rowsOk_app ok1 ok2, hF, p1, hn, by rw [List.length_append]; omega, fun H2 s2 => ?_⟩
      have s12 := s01.trans s2
      refine ⟨.int p, rfl, .ref a, rfl, a, room, p, n, rfl, RowsAt.same s12 hA, ok1, hF, p1, hn, by omega, fun H3 s3 => ?_⟩
      have s13 := s12.trans s3
      refine ⟨.ref b, rfl, b, _, rfl, .inl (.inl (.inl (s13 _ _ eb))), _, _, rfl, rfl, rfl, ?_⟩
      rw [lb]
      exact val H3 s13

def isIntD : PyData → Bool
  | .int _ => true
  | _ => false
theorem isInt_kd (d : PyData) : isIntD d = decide (kdOf d = .int) := by cases d <;> rfl
theorem ints_filter : ∀ ds : List PyData, ∃ is : List Int, ds.filter isIntD = is.map PyData.int
  | [] => ⟨[], rfl⟩
  | d :: ds => by
    obtain ⟨is, e⟩ := ints_filter ds
    by_cases h : isIntD d = true
    · rw [List.filter_cons_of_pos h, e]
      cases d with
      | int i => exact ⟨i :: is, rfl⟩
      | _ => cases h
    · rw [List.filter_cons_of_neg h, e]
      exact ⟨is, rfl⟩
def sp_lis_row5 (K : PySem.W.Frag) : Sp := fun vs H Q _ => ∃ (p : Int) (n : Nat) (v : V) (e : PyData), vs = [.int p, .int (n : Int), v] ∧ Rep K H NB v e ∧ lenOk e ∧ 1 ≤ n ∧ n ≤ 100 ∧ ∀ H', Same H H' → Q (.bl (isRowD p n e)) H'
theorem ok__law_is_row (T : Top K mg) : Ok P w K mg base 1 "_law_is_row" ["_law_p", "_law_n", "_law_thing"] (sp_lis_row5 K) := by
  refine T.d__law_is_row.ok sc__law_is_row (fun vs H Q E h => ?_) (fun f cdv A outer s H vs Q E hr h => ?_)
  · obtain ⟨p, n, v, e, rfl, _⟩ := h
    rfl
  · obtain ⟨p, n, v, e, rfl, hv, hl, n1, hn, q⟩ := h
    refine ⟨_, ((pss_cons (ps_if (PW.pt (pw_or (pt_not (pt_val (pe_callB call_isi (by rfl) T.b_isinstance (by decide +kernel) (pa_cons (pv 2) (pa_cons (pe_bltn (v := .ty "tuple") (u := .type "tuple") (by rfl) T.b_tuple (by decide +kernel) rfl) pa_nil))))) (pw_or1 (pt_cmpR op_ne (pe_callB call_len_seq (by rfl) T.b_len (by decide +kernel) (pa_cons (pv 2) pa_nil)) (pv 1) (nomark _)))))
        (pss_one (ps_ret pe_bl))
        pss_nil)
      (pss_cons (ps_setLc (i := 4) (own := [("_law_rest", 3)]) (g := gName 3) (by rfl) sc__law_is_row.nd rfl rfl (sw_true rfl rfl rfl (by decide +kernel)) (pi_tup (pv 2)) (blkOk_by (own := [("_law_rest", 3)]) (N := N__law_is_row) (sc := defScope s__law_is_row) (by decide +kernel)) (fun _ _ _ _ _ => (pg_name (i := 3) sc__law_is_row.nd rfl (.inl rfl))) (fun _ _ _ _ _ => (pts_one (PW.pt (pw_and (pt_val (pe_callB (show CallR _ (.builtin "isinstance") (rIsi K) from call_isi) (by rfl) T.b_isinstance (by decide +kernel) (pa_cons (pv 3) (pa_cons (pe_bltn (v := .ty "int") (u := .type "int") (by rfl) T.b_int (by decide +kernel) rfl) pa_nil)))) (pw_and1 (pt_not (pt_val (pe_callB (show CallR _ (.builtin "isinstance") (rIsi K) from call_isi) (by rfl) T.b_isinstance (by decide +kernel) (pa_cons (pv 3) (pa_cons (pe_bltn (v := .ty "bool") (u := .type "bool") (by rfl) T.b_bool (by decide +kernel) rfl) pa_nil)))))))))) (fun _ _ _ _ _ => (pv 3)))
      (pss_one (ps_ret (pe_and (pe_cmpR op_eq (pe_callB call_len_seq (by rfl) T.b_len (by decide +kernel) (pa_cons (pv 4) pa_nil)) (pv 1) (nomark _)) (pe_and (pe_cmpR op_ge (pe_callB (cr_min (by rfl)) (by rfl) T.b_min (by decide +kernel) (pa_cons (pv 4) pa_nil)) pe_int (nomark _)) (pe_one (pe_cmpR op_lt (pe_callB (cr_max (by rfl)) (by rfl) T.b_max (by decide +kernel) (pa_cons (pv 4) pa_nil)) (pv 0) (nomark _)))))))))), ?_⟩
    refine ⟨v, rfl, v, .ty "tuple", _, _, _, rfl, .ty "tuple", hv.kd, kit_tuple _, _, rfl, ?_⟩
    cases hv with
    | @tup a xs ds hA hx =>
      have lx := repAll_len hx
      have hl : ds.length ≤ 1000 := hl
      refine iteF ⟨.ref a, rfl, a, _, rfl, .inr hA, .int n, rfl, rfl, _, rfl, ?_⟩
      by_cases hn' : ds.length = n
      · rw [show (!decide (V.int (xs.length : Int) = V.int (n : Int))) = false by rw [lx, hn']; simp]
        refine iteF ⟨.ref a, rfl, a, rfl, ⟨_, hA⟩, lc_filterR (K := K) isIntD (walk_tup (K := K) (a := a) (xs := xs)) (fun H' s => Same.tup s hA) hx (by omega) (fun _ => rfl) (by show (3 : Nat) < 5; decide) (fun v d H' Q' md rv sm hQ => ?_) (fun D H1 ws s1 nD eD rD => ?_)⟩
        · have hk := rv.kd
          rw [isInt_kd] at hQ
          have hQ' := hQ H' (Same.refl _)
          generalize kdOf d = kk at hk hQ'
          refine ⟨v, rfl, v, .ty "int", _, _, _, rfl, .ty "int", hk, kit_int _, _, rfl, ?_⟩
          cases kk <;> first | exact hQ' | exact ⟨v, rfl, v, .ty "bool", _, _, _, rfl, .ty "bool", hk, kit_bool _, _, rfl, hQ'⟩
        obtain ⟨is, eis⟩ := ints_filter ds
        rw [eis] at rD
        have ew := rep_lst_ints rD
        subst ew
        have lis : is.length ≤ ds.length := by
          have := List.length_filter_le isIntD ds
          rw [eis, List.length_map] at this
          exact this
        refine ⟨.ref D, rfl, D, _, rfl, .inl (.inl (.inl eD)), .int n, rfl, rfl, _, rfl, ?_⟩
        rw [List.length_map]
        by_cases hli : is.length = n
        · rw [show decide (V.int (is.length : Int) = V.int (n : Int)) = true by rw [hli]; simp]
          have eall : ds = is.map PyData.int := by
            rw [← eis]
            exact (List.filter_eq_self.mpr (List.length_filter_eq_length_iff.mp (by rw [eis, List.length_map]; omega))).symm
          refine iteT ⟨.ref D, rfl, D, is, rfl, .inl (.inl eD), by omega, fun m mm hm => ?_⟩
          refine ⟨m, 0, rfl, rfl, _, rfl, ?_⟩
          have val : isRowD p n (.tuple ds) = ds.all (restD p) := by
            show (decide ((ds.length : Int) = n) && ds.all (restD p)) = _
            rw [decide_eq_true (by omega), Bool.true_and]
          rw [val, eall] at q
          by_cases h0 : m ≥ 0
          · rw [decide_eq_true h0]
            refine iteT ⟨.ref D, rfl, D, is, rfl, .inl (.inl eD), by omega, fun M MM hM => ?_⟩
            refine ⟨.int p, rfl, M, p, rfl, rfl, ?_⟩
            have e : (is.map PyData.int).all (restD p) = decide (M < p) := by
              rw [Bool.eq_iff_iff, List.all_eq_true, decide_eq_true_iff]
              constructor
              · intro h
                have := h (.int M) (List.mem_map_of_mem MM)
                have : (decide (0 ≤ M) && decide (M < p)) = true := this
                simp only [Bool.and_eq_true, decide_eq_true_eq] at this
                exact this.2
              · intro h d hd
                obtain ⟨i, mi, rfl⟩ := List.mem_map.mp hd
                show (decide (0 ≤ i) && decide (i < p)) = true
                have a1 := hm i mi
                have a2 := hM i mi
                simp only [Bool.and_eq_true, decide_eq_true_eq]
                omega
            have := q H1 s1
            rw [e] at this
            exact this
          · rw [decide_eq_false h0]
            have e : (is.map PyData.int).all (restD p) = false := by
              refine Bool.eq_false_iff.mpr fun z => h0 ?_
              have := List.all_eq_true.mp z (.int m) (List.mem_map_of_mem mm)
              have : (decide (0 ≤ m) && decide (m < p)) = true := this
              simp only [Bool.and_eq_true, decide_eq_true_eq] at this
              exact this.1
            have := q H1 s1
            rw [e] at this
            exact iteF this
        · rw [show decide (V.int (is.length : Int) = V.int (n : Int)) = false from decide_eq_false fun z => hli (by have := V.int.inj z; omega)]
          have e : isRowD p n (.tuple ds) = false := by
            show (decide ((ds.length : Int) = n) && ds.all (restD p)) = false
            rw [decide_eq_true (by omega), Bool.true_and]
            refine Bool.eq_false_iff.mpr fun z => hli ?_
            have : ds.filter isIntD = ds := List.filter_eq_self.mpr fun d hd => by
              have := List.all_eq_true.mp z d hd
              cases d with
              | int i => rfl
              | _ => cases this
            rw [this] at eis
            have := congrArg List.length eis
            rw [List.length_map] at this
            omega
          have := q H1 s1
          rw [e] at this
          exact iteF this
      · rw [show (!decide (V.int (xs.length : Int) = V.int (n : Int))) = true by
          rw [lx, decide_eq_false (fun z => hn' (by have := V.int.inj z; omega))]; rfl]
        have e : isRowD p n (.tuple ds) = false := by
          show (decide ((ds.length : Int) = n) && ds.all (restD p)) = false
          rw [decide_eq_false (by omega), Bool.false_and]
        have := q H (Same.refl H)
        rw [e] at this
        exact iteT this
    | _ => exact iteT (q H (Same.refl H))

def sp_are_free (K : PySem.W.Frag) : Sp := fun vs H Q _ => ∃ (a b : Addr) (room rows : List (List Int)) (p : Int) (n : Nat), vs = [.int p, .int (n : Int), .ref a, .ref b] ∧ RowsAt K H a room ∧ RowsAt K H b rows ∧ PFR p n room ∧ RowsOk p n rows ∧ Fld p ∧ p ≤ 1000 ∧ 1 ≤ n ∧ n ≤ 100 ∧ rows.length ≤ 400 ∧ ∀ H', Same H H' → Q (.bl (decide ((plainR p n (room ++ rows)).length = room.length + rows.length))) H'
theorem ok_are_free (T : Top K mg) : Ok P w K mg base 6 "are_free" ["p", "n", "room", "rows"] (sp_are_free K) := by
  have O_room_of := ok_room_of (P := P) (w := w) (base := base) T
  refine T.d_are_free.ok sc_are_free (fun vs H Q E h => ?_) (fun f cdv A outer s H vs Q E hr h => ?_)
  · obtain ⟨a, b, room, rows, p, n, rfl, _⟩ := h
    rfl
  · obtain ⟨a, b, room, rows, p, n, rfl, hA, hB, pf, ok2, hF, p1, n1, hn, l2, q⟩ := h
    refine ⟨_, ((pss_one (ps_ret (pe_cmpR op_eq (pe_callB call_len_seq (by rfl) T.b_len (by decide +kernel) (pa_cons (pe_callO O_room_of (hr.mono (by omega)) (by rfl) (pa_cons (pv 0) (pa_cons (pv 1) (pa_cons (pe_op op_catB (pv 2) (pv 3)) pa_nil)))) pa_nil)) (pe_op op_add (pe_callB call_len_seq (by rfl) T.b_len (by decide +kernel) (pa_cons (pv 2) pa_nil)) (pe_callB call_len_seq (by rfl) T.b_len (by decide +kernel) (pa_cons (pv 3) pa_nil))) (nomark _))))), ?_⟩
    have lr := PFR.len hF pf
    obtain ⟨wa, ea, da⟩ := id hA
    obtain ⟨wb, eb, db⟩ := id hB
    have la := rows_len da
    have lb := rows_len db
    refine ⟨.int p, rfl, .int n, rfl, .ref a, rfl, .ref b, rfl, a, b, _, _, rfl, rfl, ea, eb, sz1000 (by omega), fun l H1 s1 h1 => ?_⟩
    have d1 := dpAll_append (dpAll_same s1 _ _ da) (dpAll_same s1 _ _ db)
    rw [← List.map_append] at d1
    refine ⟨l, room ++ rows, p, n, rfl, ⟨_, h1, d1⟩, rowsOk_app pf.1 ok2, hF, n1, hn, p1, fun H2 m s2 hm => ?_⟩
    obtain ⟨wm, em, dm⟩ := hm
    have lm := rows_len dm
    have s12 := s1.trans s2
    refine ⟨m, _, rfl, .inr em, .ref a, rfl, a, _, rfl, .inr (Same.tup s12 ea), .ref b, rfl, b, _, rfl, .inr (Same.tup s12 eb), _, _, rfl, rfl, rfl, ?_⟩
    have := q H2 s12
    rw [lm, la, lb, show decide (V.int ((plainR p n (room ++ rows)).length : Nat) = V.int ((room.length : Nat) + (rows.length : Nat) : Int)) = decide ((plainR p n (room ++ rows)).length = room.length + rows.length) from decide_eq_decide.mpr ⟨fun z => by injection z; omega, fun z => by rw [z]; rfl⟩]
    exact this

def sp_lworth5 (K : PySem.W.Frag) : Sp := fun vs H Q _ => ∃ (a b : Addr) (x y : List Int) (p : Int), vs = [.int p, .ref a, .ref b] ∧ SqT K H a (x.map V.int) ∧ SqT K H b (y.map V.int) ∧ x.length ≤ 1000 ∧ 0 < p ∧ p ≤ 1000000 ∧ RowOk p x ∧
  ∀ H', Same H H' → Q (.int (worthR p x y)) H'
theorem ok__law_worth (T : Top K mg) : Ok P w K mg base 1 "_law_worth" ["_law_p", "_law_row_here", "_law_world"] (sp_lworth5 K) := by
  refine T.d__law_worth.ok sc__law_worth (fun vs H Q E h => ?_) (fun f cdv A outer s H vs Q E hr h => ?_)
  · obtain ⟨a, b, x, y, p, rfl, _⟩ := h
    rfl
  · obtain ⟨a, b, x, y, p, rfl, hA, hB, hz, hp, hp2, ro, q⟩ := h
    refine ⟨_, ((pss_one (ps_ret (pe_op op_mod (pe_callB (cr_sum (by rfl)) (by rfl) T.b_sum (by decide +kernel) (pa_cons (pe_lc (own := [("_law_a", 3), ("_law_b", 4)]) (g := gTup K 2 (gCons (gName 3) (gCons (gName 4) gNil))) (by rfl) sc__law_worth.nd (RZ.pi_zipA (by rfl) T.b_zip (pa_cons (pv 1) (pa_cons (pv 2) pa_nil))) (blkOk_by (own := [("_law_a", 3), ("_law_b", 4)]) (N := N__law_worth) (sc := defScope s__law_worth) (by decide +kernel)) (fun _ _ _ _ _ => (pg_tup (by rfl) (pgs_cons (pg_name (i := 3) sc__law_worth.nd rfl (.inl rfl)) (pgs_cons (pg_name (i := 4) sc__law_worth.nd rfl (.inl rfl)) pgs_nil)))) (fun _ _ _ _ _ => pts_nil) (fun _ _ _ _ _ => (pe_op op_mul (pv 3) (pv 4)))) pa_nil)) (pv 0))))), ?_⟩
    refine ⟨.ref a, rfl, .ref b, rfl, a, b, _, _, rfl, .inr ⟨hA, hB, lc_zipI (fun u v => u * v) hA hB hz (fun _ _ => rfl) (fun u v H' Q' hu _ _ hQ => ?_) (fun D H' sm nD eD => ?_)⟩⟩
    · have := ro u hu
      exact ⟨.int u, rfl, .int v, rfl, u, v, rfl, rfl, .inl ⟨by omega, by omega⟩, hQ⟩
    · exact ⟨D, _, rfl, .inl (.inl eD), .int p, rfl, _, p, rfl, rfl, hp, q _ sm⟩

end
end OC

set_option Elab.async false
set_option linter.all false
set_option maxRecDepth 100000
set_option maxHeartbeats 4000000
namespace OC
open PySem PySem.Spec PyProof.Rows L2
section
variable {P : Program} {w : World} {K : PySem.W.Frag} {mg : Str → Option Value} {base : Heap}
theorem dpAll_drop {K : PySem.W.Frag} {H : Hp} : ∀ {xs : List V} {ds : List PyData} (k : Nat), DpAll K H xs ds → DpAll K H (xs.drop k) (ds.drop k)
  | _, _, 0, h => h
  | _, _, _ + 1, .nil => .nil
  | _, _, k + 1, .cons _ h => dpAll_drop k h
theorem plain_count {p : Int} (hF : Fld p) {n : Nat} : ∀ (rs rs' : List (List Int)), RowsOk p n (rs ++ rs') → (plainR p n (rs ++ rs')).length ≤ (plainR p n rs).length + rs'.length
  | rs, [], _ => by rw [List.append_nil]; exact Nat.le_refl _
  | rs, r :: rs', h => by
    have e : rs ++ r :: rs' = (rs ++ [r]) ++ rs' := by rw [List.append_assoc]; rfl
    rw [e] at h ⊢
    have h1 := plain_count hF (rs ++ [r]) rs' h
    have h2 := plain_one_more hF (rs := rs) (r := r) (fun x hx => h x (List.mem_append_left _ (List.mem_append_left _ hx))) (rowsOk_one (h r (List.mem_append_left _ (List.mem_append_right _ List.mem_cons_self))))
    rw [h2] at h1
    rw [List.length_cons]
    by_cases hh : hasR p n rs r = true
    · rw [if_pos hh] at h1; omega
    · rw [if_neg hh] at h1; omega
/-- a row of free rows is none of the room and the others -/
theorem free_out {p : Int} (hF : Fld p) {n : Nat} {room rows : List (List Int)} (pf : PFR p n room) (ok : RowsOk p n rows) (fr : (plainR p n (room ++ rows)).length = room.length + rows.length) {i : Nat} {r : List Int} (hi : rows[i]? = some r) : hasR p n (room ++ rows.take i ++ rows.drop (i + 1)) r = false := by
  cases hh : hasR p n (room ++ rows.take i ++ rows.drop (i + 1)) r with
  | false => rfl
  | true =>
    exfalso
    obtain ⟨li, gi⟩ := List.getElem?_eq_some_iff.mp hi
    have mr : r ∈ rows := List.mem_of_getElem? hi
    have okt : RowsOk p n (rows.take i ++ rows.drop (i + 1)) := rowsOk_app (fun x hx => ok x (List.mem_of_mem_take hx)) (fun x hx => ok x (List.mem_of_mem_drop hx))
    have oko : RowsOk p n (room ++ (rows.take i ++ rows.drop (i + 1))) := rowsOk_app pf.1 okt
    rw [List.append_assoc] at hh
    have inr := (hasR_in hF oko (rowsOk_one (ok r mr))).mp hh
    have split : rows = rows.take i ++ r :: rows.drop (i + 1) := by
      rw [← gi, ← List.drop_eq_getElem_cons li, List.take_append_drop]
    have same : plainR p n (room ++ rows) = plainR p n (room ++ (rows.take i ++ rows.drop (i + 1))) := by
      refine plain_same hF (rowsOk_app pf.1 ok) oko (fun x hx => ?_) (fun x hx => ?_)
      · rcases List.mem_append.mp hx with h | h
        · exact InR.mem (List.mem_append_left _ h)
        · rw [split] at h
          rcases List.mem_append.mp h with h | h
          · exact InR.mem (List.mem_append_right _ (List.mem_append_left _ h))
          · rcases List.mem_cons.mp h with rfl | h
            · exact inr
            · exact InR.mem (List.mem_append_right _ (List.mem_append_right _ h))
      · rcases List.mem_append.mp hx with h | h
        · exact InR.mem (List.mem_append_left _ h)
        · refine InR.mem (List.mem_append_right _ ?_)
          rcases List.mem_append.mp h with h | h
          · exact List.mem_of_mem_take h
          · exact List.mem_of_mem_drop h
    have cnt := plain_count hF room (rows.take i ++ rows.drop (i + 1)) oko
    rw [pf.2, ← same, fr, List.length_append, List.length_take, List.length_drop] at cnt
    omega
theorem worth_swap (p : Int) (x y : List Int) : worthR p x y = worthR p y x := by
  unfold worthR
  rw [List.zipWith_comm_of_comm (fun a b : Int => Int.mul_comm a b)]
/-- the turn of a row that the others don't make -/
def turnR (p : Int) (n : Nat) (os : List (List Int)) (r : List Int) : List Int :=
  match (acrossR p n (plainR p n os)).find? (fun w => !decide (worthR p r w = 0)) with
  | some w => timesR p (ctr p (worthR p r w)) w
  | none => []
theorem turn_at {p : Int} (hF : Fld p) {n : Nat} {os : List (List Int)} {r w : List Int} (ok : RowsOk p n os) (hw : w ∈ acrossR p n (plainR p n os)) (h0 : worthR p r w ≠ 0) : RowsOk p n [timesR p (ctr p (worthR p r w)) w] ∧ worthR p r (timesR p (ctr p (worthR p r w)) w) = 1 ∧ ∀ o ∈ os, worthR p o (timesR p (ctr p (worthR p r w)) w) = 0 := by
  have p2 := hF.1
  have pfa := PFR.across hF n (plainR p n os)
  have okw := pfa.1 w hw
  have wb := worth_bd (p := p) (x := r) (y := w) (by omega)
  have cb := ctr_ok hF (a := worthR p r w) (by omega) (by omega)
  refine ⟨rowsOk_one ⟨by rw [times_len]; exact okw.1, times_ok (by omega)⟩, ?_, fun o ho => ?_⟩
  · generalize hk : ctr p (worthR p r w) = k at cb
    rw [worth_swap, worth_times, worth_swap p w r, Int.mul_comm]
    exact cb.2.2
  · generalize ctr p (worthR p r w) = k
    rw [worth_swap, worth_times, worth_swap p w o, across_worth hF ok ho hw, Int.mul_zero, Int.zero_emod]
theorem turn_ok {p : Int} (hF : Fld p) {n : Nat} {os : List (List Int)} {r : List Int} (ok : RowsOk p n os) (okr : RowsOk p n [r]) (out : hasR p n os r = false) : RowsOk p n [turnR p n os r] ∧ worthR p r (turnR p n os r) = 1 ∧ ∀ o ∈ os, worthR p o (turnR p n os r) = 0 := by
  unfold turnR
  cases hf : (acrossR p n (plainR p n os)).find? (fun w => !decide (worthR p r w = 0)) with
  | some w =>
    have h0 := List.find?_some hf
    exact turn_at hF ok (List.mem_of_find?_eq_some hf) (fun z => by rw [z] at h0; exact absurd h0 (by decide))
  | none =>
    exfalso
    have hz := List.find?_eq_none.mp hf
    rw [(across_parts hF ok okr).mp fun w hw => by
      have := hz w hw
      simpa using this] at out
    cases out
/-- the turns of free rows -/
def turnsR (p : Int) (n : Nat) (room rows : List (List Int)) : List (List Int) := (List.range rows.length).map fun i => turnR p n (room ++ rows.take i ++ rows.drop (i + 1)) (rows.getD i [])
def sp_turn_of (K : PySem.W.Frag) : Sp := fun vs H Q _ => ∃ (a b : Addr) (os : List (List Int)) (r : List Int) (p : Int) (n : Nat), vs = [.int p, .int (n : Int), .ref a, .ref b] ∧ RowsAt K H a os ∧ SqT K H b (r.map V.int) ∧ RowsOk p n os ∧ RowsOk p n [r] ∧ Fld p ∧ p ≤ 1000 ∧ 1 ≤ n ∧ n ≤ 100 ∧ hasR p n os r = false ∧
  ∀ H' l, Same H H' → SqT K H' l ((turnR p n os r).map V.int) → Q (.ref l) H'
theorem ok_turn_of (T : Top K mg) : Ok P w K mg base 7 "turn_of" ["p", "n", "others", "row"] (sp_turn_of K) := by
  have O_across := ok_across (P := P) (w := w) (base := base) T
  have O_room_of := ok_room_of (P := P) (w := w) (base := base) T
  have O_worth := ok_worth (P := P) (w := w) (base := base) T
  have O_times := ok_times (P := P) (w := w) (base := base) T
  have O_contrary := ok_contrary (P := P) (w := w) (base := base) T
  refine T.d_turn_of.ok sc_turn_of (fun vs H Q E h => ?_) (fun f cdv A outer s H vs Q E hr h => ?_)
  · obtain ⟨a, b, os, r, p, n, rfl, _⟩ := h
    rfl
  · obtain ⟨a, b, os, r, p, n, rfl, hA, hB, ok, okr, hF, p1, n1, hn, out, q⟩ := h
    refine ⟨_, ((pss_cons (ps_for PassesOwn.never (by rfl) (pi_tup (pe_callO O_across (hr.mono (by omega)) (by rfl) (pa_cons (pv 0) (pa_cons (pv 1) (pa_cons (pe_callO O_room_of (hr.mono (by omega)) (by rfl) (pa_cons (pv 0) (pa_cons (pv 1) (pa_cons (pv 2) pa_nil)))) pa_nil))))) (pg_name (i := 4) sc_turn_of.nd rfl (.inl rfl))
        (pss_cons (ps_set (i := 5) sc_turn_of.nd rfl (.inl rfl) (pe_callO O_worth (hr.mono (by omega)) (by rfl) (pa_cons (pv 0) (pa_cons (pv 3) (pa_cons (pv 4) pa_nil)))))
        (pss_one (ps_if (pt_cmpR op_ne (pv 5) pe_int (nomark _))
          (pss_one (ps_ret (pe_callO O_times (hr.mono (by omega)) (by rfl) (pa_cons (pv 0) (pa_cons (pe_callO O_contrary (hr.mono (by omega)) (by rfl) (pa_cons (pv 0) (pa_cons (pv 5) pa_nil))) (pa_cons (pv 4) pa_nil))))))
          pss_nil))))
      (pss_one (ps_ret pe_non)))), ?_⟩
    have p2 := hF.1
    have okr' := okr r List.mem_cons_self
    refine ⟨.int p, rfl, .int n, rfl, .int p, rfl, .int n, rfl, .ref a, rfl, a, os, p, n, rfl, hA, ok, hF, n1, hn, p1, fun H1 l1 s1 h1 => ?_⟩
    refine ⟨l1, _, p, n, rfl, h1, PFR.of_plain hF ok, hF, n1, hn, p1, fun H2 l2 s2 h2 => ?_⟩
    have parts := across_parts hF ok okr
    have pfa := PFR.across hF n (plainR p n os)
    have val : turnR p n os r = (match (acrossR p n (plainR p n os)).find? (fun w => !decide (worthR p r w = 0)) with | some w => timesR p (ctr p (worthR p r w)) w | none => []) := rfl
    rw [val] at q
    clear val
    generalize acrossR p n (plainR p n os) = ac at h2 parts pfa q
    obtain ⟨w2, e2, d2⟩ := h2
    have lw2 := rows_len d2
    have s12 := s1.trans s2
    refine ⟨l2, rfl, ⟨_, e2⟩, for_it (walk_tup (K := K) (a := l2) (xs := w2)) (fun i σ H' => Same H2 H' ∧ (∀ x ∈ ac.take i, worthR p r x = 0) ∧ ∃ (y4 y5 : Option V), σ = [some (.int p), some (.int (n : Int)), some (.ref a), some (.ref b), y4, y5]) ⟨Same.refl _, fun x hx => (nomatch hx), none, none, rfl⟩ (fun i σ H' _ hW => Same.tup hW.1 e2) (fun i v σ H3 H4 hi hW hY => ?_) (fun σ H3 hW => ?_)⟩
    · obtain ⟨rfl, hv⟩ := hY
      obtain ⟨s3, hz, y4, y5, rfl⟩ := hW
      obtain ⟨o, x, rfl, gx, mx, ho⟩ := dpAll_row (dpAll_same s3 _ _ d2) hv
      have okx := pfa.1 x mx
      refine ⟨.int p, rfl, .ref b, rfl, .ref o, rfl, b, o, r, x, p, rfl, Same.tup (s12.trans s3) hB, ho, by omega, by omega, by omega, okr'.2, fun H4 s4 => ?_⟩
      have wb := worth_bd (p := p) (x := r) (y := x) (by omega)
      refine ⟨.int (worthR p r x), rfl, rfl, _, rfl, ?_⟩
      by_cases h0 : worthR p r x = 0
      · rw [show (!decide (V.int (worthR p r x) = V.int 0)) = false by rw [h0]; rfl]
        refine iteF ⟨s3.trans s4, fun y hy => ?_, _, _, rfl⟩
        rw [List.take_add_one, gx] at hy
        rcases List.mem_append.mp hy with h | h
        · exact hz y h
        · have : y = x := by simpa using h
          rw [this]; exact h0
      · rw [show (!decide (V.int (worthR p r x) = V.int 0)) = true by rw [decide_eq_false (fun z => h0 (V.int.inj z))]; rfl]
        refine iteT ⟨.int p, rfl, .int p, rfl, .int (worthR p r x), rfl, p, _, rfl, hF, p1, by omega, by omega, ?_⟩
        have cb := ctr_ok hF (a := worthR p r x) (by omega) (by omega)
        refine ⟨.ref o, rfl, o, x, p, _, rfl, Same.tup s4 ho, by omega, by omega, by omega, by omega, fun H5 l5 s5 n5 e5 => ?_⟩
        refine q H5 l5 (s12.trans (s3.trans (s4.trans s5))) ?_
        have split : ac = ac.take i ++ x :: ac.drop (i + 1) := by
          obtain ⟨li, gi⟩ := List.getElem?_eq_some_iff.mp gx
          rw [← gi, ← List.drop_eq_getElem_cons li, List.take_append_drop]
        have fnd : ac.find? (fun w => !decide (worthR p r w = 0)) = some x := by
          rw [split, List.find?_append, List.find?_eq_none.mpr (fun y hy => by rw [hz y hy]; decide), Option.none_or, List.find?_cons_of_pos (by rw [decide_eq_false h0]; rfl)]
        rw [fnd]
        exact .inl (.inl e5)
    · obtain ⟨s3, hz, y4, y5, rfl⟩ := hW
      rw [List.take_of_length_le (by omega)] at hz
      rw [parts.mp hz] at out
      cases out
def sp_turns (K : PySem.W.Frag) : Sp := fun vs H Q _ => ∃ (a b : Addr) (room rows : List (List Int)) (p : Int) (n : Nat), vs = [.int p, .int (n : Int), .ref a, .ref b] ∧ RowsAt K H a room ∧ RowsAt K H b rows ∧ PFR p n room ∧ RowsOk p n rows ∧ Fld p ∧ p ≤ 1000 ∧ 1 ≤ n ∧ n ≤ 100 ∧ rows.length ≤ 100 ∧ (plainR p n (room ++ rows)).length = room.length + rows.length ∧
  ∀ H' l, Same H H' → RowsAt K H' l (turnsR p n room rows) → Q (.ref l) H'
theorem ok_turns (T : Top K mg) : Ok P w K mg base 8 "turns" ["p", "n", "room", "rows"] (sp_turns K) := by
  have O_are_free := ok_are_free (P := P) (w := w) (base := base) T
  have O_turn_of := ok_turn_of (P := P) (w := w) (base := base) T
  refine T.d_turns.ok sc_turns (fun vs H Q E h => ?_) (fun f cdv A outer s H vs Q E hr h => ?_)
  · obtain ⟨a, b, room, rows, p, n, rfl, _⟩ := h
    rfl
  · obtain ⟨a, b, room, rows, p, n, rfl, hA, hB, pf, ok, hF, p1, n1, hn, lr, fr, q⟩ := h
    refine ⟨_, ((pss_cons (ps_if (pt_not (pt_val (pe_callO O_are_free (hr.mono (by omega)) (by rfl) (pa_cons (pv 0) (pa_cons (pv 1) (pa_cons (pv 2) (pa_cons (pv 3) pa_nil)))))))
        (pss_one ps_dead)
        pss_nil)
      (pss_one (ps_ret (pe_callTy call_tuple_of (by rfl) T.b_tuple (by decide +kernel) (pa_cons (pe_lc (own := [("at", 4), ("row", 5)]) (g := gTup K 2 (gCons (gName 4) (gCons (gName 5) gNil))) (by rfl) sc_turns.nd (pi_enumT (by rfl) T.b_enumerate (pa_cons (pv 3) pa_nil)) (blkOk_by (own := [("at", 4), ("row", 5)]) (N := N_turns) (sc := defScope s_turns) (by decide +kernel)) (fun _ _ _ _ _ => (pg_tup (by rfl) (pgs_cons (pg_name (i := 4) sc_turns.nd rfl (.inl rfl)) (pgs_cons (pg_name (i := 5) sc_turns.nd rfl (.inl rfl)) pgs_nil)))) (fun _ _ _ _ _ => pts_nil) (fun _ _ _ _ _ => (pe_callO O_turn_of (hr.mono (by omega)) (by rfl) (pa_cons (pv 0) (pa_cons (pv 1) (pa_cons (pe_op (show OpR _ (binaryOp .Add) (rCatB K) from op_catB) (pe_op (show OpR _ (binaryOp .Add) (rCatB K) from op_catB) (pv 2) (pe_slice (show SlR _ (rSlB K) from sl_tupB) (pv 3) po_none (po_some (pv 4)))) (pe_slice (show SlR _ (rSlB K) from sl_tupB) (pv 3) (po_some (pe_op op_add (pv 4) pe_int)) po_none)) (pa_cons (pv 5) pa_nil))))))) pa_nil)))))), ?_⟩
    have lroom := PFR.len hF pf
    refine ⟨.int p, rfl, .int n, rfl, .ref a, rfl, .ref b, rfl, a, b, room, rows, p, n, rfl, hA, hB, pf, ok, hF, p1, n1, hn, by omega, fun H1 s1 => ⟨_, rfl, ?_⟩⟩
    rw [decide_eq_true fr]
    refine iteF ?_
    obtain ⟨wa, ea, da⟩ := RowsAt.same s1 hA
    obtain ⟨wb, eb, db⟩ := RowsAt.same s1 hB
    have lwa := rows_len da
    have lwb := rows_len db
    refine ⟨.ref b, rfl, b, _, rfl, eb, fun D nD => lc_it (walk_enumT (K := K) (a := b) (xs := wb)) (fun i H' => Same H1 H' ∧ ∃ ws, H' D = some (.lst ws) ∧ ws.length = i ∧ DpAll K H' ws (((List.range i).map fun i => turnR p n (room ++ rows.take i ++ rows.drop (i + 1)) (rows.getD i [])).map rowD)) ⟨same_upd nD, [], upd_same, rfl, .nil⟩ (fun i H' _ hP => Same.tup hP.1 eb) (fun i v H2 H3 hi hP hY => ?_) (fun H2 hP => ?_)⟩
    · obtain ⟨s2, ws, eD, lws, dD⟩ := hP
      obtain ⟨Ta, x1, x2, rfl, nT, rfl, g1, g2⟩ := hY
      have g1 : x1 = V.int (i : Nat) := (Option.some.inj g1).symm
      have g2 : wb[i]? = some x2 := g2
      subst g1
      obtain ⟨c', r, rfl, gr, mr, hc⟩ := dpAll_row (dpAll_same s2 _ _ db) g2
      have sT : Same H2 (upd H2 Ta (.tup [.int (i : Nat), .ref c'])) := same_upd nT
      have eT : (upd H2 Ta (.tup [V.int (i : Nat), .ref c'])) Ta = some (.tup [.int (i : Nat), .ref c']) := upd_same
      generalize upd H2 Ta (.tup [V.int (i : Nat), .ref c']) = H3 at sT eT
      have s13 := s2.trans sT
      refine ⟨Ta, [.int (i : Nat), .ref c'], rfl, .inl (.inl eT), rfl, _, _, rfl, _, _, rfl, rfl, rfl, ?_⟩
      refine ⟨.int p, rfl, .int n, rfl, .ref a, rfl, .ref b, rfl, .int (i : Nat), rfl, (i : Nat), rfl, b, _, rfl, Same.tup s13 eb, fun l4 H4 s4 h4 => ?_⟩
      rw [cut_upto (by omega), Int.toNat_natCast] at h4
      have s14 := s13.trans s4
      refine ⟨a, l4, _, _, rfl, rfl, Same.tup s14 ea, h4, sz1000 (by rw [List.length_take]; omega), fun l5 H5 s5 h5 => ?_⟩
      have s15 := s14.trans s5
      refine ⟨.ref b, rfl, .int (i : Nat), rfl, (i : Nat), 1, rfl, rfl, (i : Int) + 1, rfl, b, _, rfl, Same.tup s15 eb, fun l6 H6 s6 h6 => ?_⟩
      rw [cut_from (by omega) (by omega), show ((i : Int) + 1).toNat = i + 1 by omega] at h6
      have s16 := s15.trans s6
      refine ⟨l5, l6, _, _, rfl, rfl, Same.tup s6 h5, h6, sz1000 (by rw [List.length_append, List.length_take, List.length_drop]; omega), fun l7 H7 s7 h7 => ?_⟩
      have s17 := s16.trans s7
      have d7 : DpAll K H7 ((wa ++ wb.take i) ++ wb.drop (i + 1)) ((room ++ rows.take i ++ rows.drop (i + 1)).map rowD) := by
        rw [List.map_append, List.map_append, List.map_take, List.map_drop]
        exact dpAll_append (dpAll_append (dpAll_same s17 _ _ da) (dpAll_take i (dpAll_same s17 _ _ db))) (dpAll_drop (i + 1) (dpAll_same s17 _ _ db))
      have s27 := sT.trans (s4.trans (s5.trans (s6.trans s7)))
      have oko : RowsOk p n (room ++ rows.take i ++ rows.drop (i + 1)) := rowsOk_app (rowsOk_app pf.1 fun x hx => ok x (List.mem_of_mem_take hx)) fun x hx => ok x (List.mem_of_mem_drop hx)
      refine ⟨.ref c', rfl, l7, c', _, r, p, n, rfl, ⟨_, h7, d7⟩, Same.tup s27 hc, oko, rowsOk_one (ok r mr), hF, p1, n1, hn, free_out hF pf ok fr gr, fun H8 l8 s8 h8 => ?_⟩
      have s28 := s27.trans s8
      have eD8 := s28 _ _ eD
      have tk : Tk H8 (upd H8 D (.lst (ws ++ [.ref l8]))) := (Tk.refl _).mut eD8
      refine ⟨ws, eD8, small1000 (by omega), same_mut (s2.trans s28) nD, ws ++ [.ref l8], upd_same, by rw [List.length_append, lws]; rfl, ?_⟩
      rw [List.range_succ, List.map_append, List.map_append]
      have eg : rows.getD i [] = r := by rw [List.getD_eq_getElem?_getD, gr]; rfl
      exact dpAll_append (dpAll_tk tk _ _ (noL_rows _) (dpAll_same s28 _ _ dD)) (.cons (by
        show Dp K _ (.ref l8) (rowD (turnR p n (room ++ rows.take i ++ rows.drop (i + 1)) (rows.getD i [])))
        rw [eg]
        exact row_dp (tk _ _ _ h8)) .nil)
    · obtain ⟨s2, ws, eD, lws, dD⟩ := hP
      refine ⟨D, _, rfl, .inl ⟨.inl (.inl eD), fun o no => ?_⟩⟩
      generalize h3 : upd H2 o _ = H3
      obtain ⟨s3, e3⟩ := new_of h3 no
      refine q H3 o (s1.trans (s2.trans s3)) ⟨ws, .inl (.inl e3), ?_⟩
      rw [lwb] at dD
      exact dpAll_same s3 _ _ dD
theorem turns_len {p : Int} {n : Nat} {room rows : List (List Int)} : (turnsR p n room rows).length = rows.length := by
  unfold turnsR
  rw [List.length_map, List.length_range]
theorem turns_each {p : Int} (hF : Fld p) {n : Nat} {room rows : List (List Int)} (pf : PFR p n room) (ok : RowsOk p n rows) (fr : (plainR p n (room ++ rows)).length = room.length + rows.length) {i : Nat} (hi : i < rows.length) : ∃ u, (turnsR p n room rows)[i]? = some u ∧ RowsOk p n [u] ∧ worthR p rows[i] u = 1 ∧ (∀ j (hj : j < rows.length), j ≠ i → worthR p rows[j] u = 0) ∧ ∀ o ∈ room, worthR p o u = 0 := by
  have gi : rows[i]? = some rows[i] := List.getElem?_eq_getElem hi
  have out := free_out hF pf ok fr gi
  have okt : RowsOk p n (room ++ rows.take i ++ rows.drop (i + 1)) := rowsOk_app (rowsOk_app pf.1 fun x hx => ok x (List.mem_of_mem_take hx)) fun x hx => ok x (List.mem_of_mem_drop hx)
  obtain ⟨h1, h2, h3⟩ := turn_ok hF okt (rowsOk_one (ok rows[i] (List.getElem_mem hi))) out
  refine ⟨_, ?_, h1, h2, fun j hj hji => h3 _ ?_, fun o ho => h3 o (List.mem_append_left _ (List.mem_append_left _ ho))⟩
  · unfold turnsR
    rw [List.getElem?_map, List.getElem?_range hi, Option.map_some, List.getD_eq_getElem?_getD, gi]
    rfl
  · by_cases h : j < i
    · refine List.mem_append_left _ (List.mem_append_right _ ?_)
      have : (rows.take i)[j]? = some rows[j] := by rw [List.getElem?_take_of_lt h, List.getElem?_eq_getElem hj]
      exact List.mem_of_getElem? this
    · refine List.mem_append_right _ ?_
      have : (rows.drop (i + 1))[j - (i + 1)]? = some rows[j] := by
        rw [List.getElem?_drop, show i + 1 + (j - (i + 1)) = j by omega, List.getElem?_eq_getElem hj]
      exact List.mem_of_getElem? this

end
end OC

set_option Elab.async false
set_option linter.all false
set_option maxRecDepth 100000
set_option maxHeartbeats 4000000
namespace OC
open PySem PySem.Spec PyProof.Rows L2
section
variable {P : Program} {w : World} {K : PySem.W.Frag} {mg : Str → Option Value} {base : Heap}
def sp_spread (K : PySem.W.Frag) : Sp := fun vs H Q _ => ∃ (d c e : Addr) (t : Int), vs = [.ref d] ∧ Drw H d c e t ∧ t ≤ 800000 ∧
  ∀ (H' : Hp) (a l1 l2 : Addr) (p : Int) (n : Nat) (room rows : List (List Int)) (t' : Int), Kept d e H H' → Drw H' d c e t' → t' ≤ t + 300 → SqT K H' a [.int p, .int (n : Int), .ref l1, .ref l2] → RowsAt K H' l1 room → RowsAt K H' l2 rows → PFR p n room → RowsOk p n rows → rows.length ≤ 4 → Fld p → p ≤ 1000 → 1 ≤ n → n ≤ 8 → Q (.ref a) H'
theorem ok__law_spread (T : Top K mg) : Ok P w K mg base 6 "_law_spread" ["_law_drawn"] (sp_spread K) := by
  have O__law_next := ok__law_next (P := P) (w := w) (base := base) T
  have O__law_row := ok__law_row (P := P) (w := w) (base := base) T
  have O__law_free := ok__law_free (P := P) (w := w) (base := base) T
  have O_room_of := ok_room_of (P := P) (w := w) (base := base) T
  refine T.d__law_spread.ok sc__law_spread (fun vs H Q E h => ?_) (fun f cdv A outer s H vs Q E hr h => ?_)
  · obtain ⟨d, c, e, t, rfl, _⟩ := h
    rfl
  · obtain ⟨d, c, e, t, rfl, D0, ht, q⟩ := h
    refine ⟨_, ((pss_cons (ps_set (i := 1) sc__law_spread.nd rfl (.inr rfl) (pe_ix ix_list (pe_lst (pa_cons pe_int (pa_cons pe_int (pa_cons pe_int (pa_cons pe_int (pa_cons pe_int pa_nil)))))) (pe_callO O__law_next (hr.mono (by omega)) (by rfl) (pa_cons (pv 0) (pa_cons pe_int pa_nil))) (fun _ _ => rfl)))
      (pss_cons (ps_set (i := 2) sc__law_spread.nd rfl (.inr rfl) (pe_op op_add pe_int (pe_callO O__law_next (hr.mono (by omega)) (by rfl) (pa_cons (pv 0) (pa_cons pe_int pa_nil)))))
      (pss_cons (ps_set (i := 4) sc__law_spread.nd rfl (.inl rfl) (pe_callO O_room_of (hr.mono (by omega)) (by rfl) (pa_cons (pv 1) (pa_cons (pv 2) (pa_cons (pe_callTy call_tuple_of (by rfl) T.b_tuple (by decide +kernel) (pa_cons (pe_lc (own := [("_law_k", 3)]) (g := gName 3) (by rfl) sc__law_spread.nd (pi_range1 (by rfl) T.b_range (pa_cons (pe_callO O__law_next (hr.mono (by omega)) (by rfl) (pa_cons (pv 0) (pa_cons pe_int pa_nil))) pa_nil)) (blkOk_by (own := [("_law_k", 3)]) (N := N__law_spread) (sc := defScope s__law_spread) (by decide +kernel)) (fun _ _ _ _ _ => (pg_name (i := 3) sc__law_spread.nd rfl (.inl rfl))) (fun _ _ _ _ _ => pts_nil) (fun _ _ _ _ _ => (pe_callO O__law_row (hr.mono (by omega)) (by rfl) (pa_cons (pv 0) (pa_cons (pv 1) (pa_cons (pv 2) pa_nil)))))) pa_nil)) pa_nil)))))
      (pss_cons (ps_set (i := 5) sc__law_spread.nd rfl (.inl rfl) (pe_lst pa_nil))
      (pss_cons (ps_for PassesOwn.never (by rfl) (pi_range1 (by rfl) T.b_range (pa_cons (pe_callO O__law_next (hr.mono (by omega)) (by rfl) (pa_cons (pv 0) (pa_cons pe_int pa_nil))) pa_nil)) (pg_name (i := 3) sc__law_spread.nd rfl (.inl rfl))
        (pss_cons (ps_set (i := 6) sc__law_spread.nd rfl (.inl rfl) (pe_callO O__law_row (hr.mono (by omega)) (by rfl) (pa_cons (pv 0) (pa_cons (pv 1) (pa_cons (pv 2) pa_nil)))))
        (pss_one (ps_if (PW.pt (pw_or (pt_val (pe_callO O__law_free (hr.mono (by omega)) (by rfl) (pa_cons (pv 1) (pa_cons (pv 4) (pa_cons (pe_op op_cat (pv 5) (pe_lst (pa_cons (pv 6) pa_nil))) pa_nil))))) (pw_or1 (pt_cmpR op_eq (pe_callO O__law_next (hr.mono (by omega)) (by rfl) (pa_cons (pv 0) (pa_cons pe_int pa_nil))) pe_int (nomark _)))))
          (pss_one (ps_expr (pe_bm PySem.F.plainAttrs_list PySem.F.slot_list_append PySem.F.type_list_append mt_append (pv 5) (pa_cons (pv 6) pa_nil))))
          pss_nil))))
      (pss_one (ps_ret (pe_tup (pa_cons (pv 1) (pa_cons (pv 2) (pa_cons (pv 4) (pa_cons (pe_callTy call_tuple_of (by rfl) T.b_tuple (by decide +kernel) (pa_cons (pv 5) pa_nil)) pa_nil))))))))))))), ?_⟩
    refine ⟨sz1000 (by decide : (5 : Nat) ≤ 1000), fun o no => ?_⟩
    dsimp only
    generalize h1 : upd H o _ = H1
    obtain ⟨s1, e1⟩ := new_of h1 no
    have bo := D0.fresh no
    refine ⟨.ref d, rfl, d, c, e, t, 5, rfl, D0.same s1, by omega, by decide, by decide, fun H2 z k2 D2 z0 z1 => ?_⟩
    have e2 := Drw.lst (c := c) k2 bo e1
    obtain ⟨p, mp, _, hp⟩ := at_int (xs := [5, 7, 11, 53, 101]) z0 z1
    refine ⟨o, _, z, .int p, rfl, rfl, .inl (.inl e2), hp, ?_⟩
    obtain ⟨hF, p1⟩ : Fld p ∧ p ≤ 1000 := by
      simp only [List.mem_cons, List.not_mem_nil, or_false] at mp
      rcases mp with rfl | rfl | rfl | rfl | rfl
      · exact ⟨fld_of (p := 5) (by decide +kernel), by decide⟩
      · exact ⟨fld_of (p := 7) (by decide +kernel), by decide⟩
      · exact ⟨fld_of (p := 11) (by decide +kernel), by decide⟩
      · exact ⟨fld_of (p := 53) (by decide +kernel), by decide⟩
      · exact ⟨fld_of (p := 101) (by decide +kernel), by decide⟩
    have p2 := hF.1
    clear mp hp e2 e1 h1
    refine ⟨.ref d, rfl, d, c, e, _, 8, rfl, D2, by omega, by decide, by decide, fun H3 m k3 D3 m0 m1 => ⟨1, m, rfl, rfl, ?_⟩⟩
    obtain ⟨n, en⟩ : ∃ n : Nat, 1 + m = (n : Int) := ⟨(1 + m).toNat, by omega⟩
    rw [show ((fun (i j : Int) => V.int (i + j)) 1 m) = V.int (n : Int) from congrArg V.int en]
    have n1 : 1 ≤ n := by omega
    have n8 : n ≤ 8 := by omega
    refine ⟨.int p, rfl, .int n, rfl, .ref d, rfl, d, c, e, _, 4, rfl, D3, by omega, by decide, by decide, fun H4 m4 k4 D4 m40 m41 => ⟨m4, rfl, by omega, by omega, lc_rows5 (K := K) (p := p) (n := n) (m := m4.toNat) D4 (by omega) (fun _ => rfl) (fun x k t' H' Q' D' ht' hk hQ => ?_) (fun D H5 t5 ws rs k5 D5 ht5 nD eD dD lrs okrs => ?_)⟩⟩
    · exact ⟨.ref d, rfl, .int p, rfl, .int n, rfl, d, c, e, t', p, n, rfl, D', by omega, by omega, p1, by omega, fun H7 a7 r7 k7 D7 n7 e7 ok7 => hQ H7 _ a7 r7 k7 D7 (by omega) e7 ok7⟩
    refine ⟨D, _, rfl, .inl ⟨.inl (.inl eD), fun o6 n6 => ?_⟩⟩
    generalize h6 : upd H5 o6 _ = H6
    obtain ⟨s6, e6⟩ := new_of h6 n6
    refine ⟨o6, rs, p, n, rfl, ⟨ws, .inl (.inl e6), dpAll_same s6 _ _ dD⟩, okrs, hF, n1, by omega, p1, fun H7 l7 s7 h7 => ?_⟩
    have pf := PFR.of_plain hF okrs
    generalize plainR p n rs = room at h7 pf
    have lroom := PFR.len hF pf
    have D7 := D5.same (s6.trans s7)
    refine ⟨Nat.zero_le _, fun L nL => ?_⟩
    generalize h8 : upd H7 L _ = H8
    obtain ⟨s8, e8⟩ := new_of h8 nL
    have bL := D7.fresh nL
    have D8 := D7.same s8
    have r8 := RowsAt.same s8 h7
    have kH8 : Kept d e H H8 := (((Kept.of s1).trans k2).trans (k3.trans (k4.trans k5))).trans (Kept.of (s6.trans (s7.trans s8)))
    refine ⟨.ref d, rfl, d, c, e, t5, 5, rfl, D8, by omega, by decide, by decide, fun H9 m9 k9 D9 m90 m91 => ⟨m9, rfl, by omega, by omega, ?_⟩⟩
    refine for_range (lo := 0) (n := m9.toNat) (fun i σ H' => Kept d e H7 H' ∧ Kept d e H H' ∧ ∃ (t' : Int) (ws : List V) (gs : List (List Int)) (y3 y6 : Option V), Drw H' d c e t' ∧ t' ≤ t5 + 1 + 40 * i ∧ H' L = some (.lst ws) ∧ DpAll K H' ws (gs.map rowD) ∧ gs.length ≤ i ∧ RowsOk p n gs ∧ RowsAt K H' l7 room ∧ σ = [some (.ref d), some (.int p), some (.int (n : Int)), y3, some (.ref l7), some (.ref L), y6]) ⟨(Kept.of s8).trans k9, kH8.trans k9, t5 + 1, [], [], none, none, D9, by omega, Drw.lst (c := c) k9 bL e8, .nil, Nat.le_refl _, fun x hx => (nomatch hx), D8.rows k9 r8, rfl⟩ (fun i σ H' hi hW => ?_) (fun σ H' hW => ?_)
    · obtain ⟨k7', kH', t', ws', gs, y3, y6, D', ht', eL, dw, lg, okg, r', rfl⟩ := hW
      have lws := rows_len dw
      refine ⟨.ref d, rfl, .int p, rfl, .int n, rfl, d, c, e, t', p, n, rfl, D', by omega, by omega, p1, by omega, fun H10 a10 r10 k10 D10 n10 e10 ok10 => ?_⟩
      have eL10 := Drw.lst (c := c) k10 bL eL
      have dw10 := dpAll_tk (D'.tk k10) _ _ (noL_rows gs) dw
      have r10' := D'.rows k10 r'
      have h10 : SqT K H10 a10 (r10.map V.int) := .inl (.inl e10)
      -- the row is put behind the others
      have put : ∀ (H' : Hp) (t2 : Int), Kept d e H10 H' → Drw H' d c e t2 → t2 ≤ t' + 38 → H' L = some (.lst ws') → DpAll K H' ws' (gs.map rowD) → SqT K H' a10 (r10.map V.int) → RowsAt K H' l7 room → Kept d e H7 (upd H' L (.lst (ws' ++ [.ref a10]))) ∧ Kept d e H (upd H' L (.lst (ws' ++ [.ref a10]))) ∧ ∃ (t'' : Int) (ws : List V) (gs : List (List Int)) (z3 z6 : Option V), Drw (upd H' L (.lst (ws' ++ [.ref a10]))) d c e t'' ∧ t'' ≤ t5 + 1 + 40 * ((i + 1 : Nat) : Int) ∧ (upd H' L (.lst (ws' ++ [.ref a10]))) L = some (.lst ws) ∧ DpAll K (upd H' L (.lst (ws' ++ [.ref a10]))) ws (gs.map rowD) ∧ gs.length ≤ i + 1 ∧ RowsOk p n gs ∧ RowsAt K (upd H' L (.lst (ws' ++ [.ref a10]))) l7 room ∧ [some (V.ref d), some (.int p), some (.int (n : Int)), some (.int (0 + (i : Int))), some (.ref l7), some (.ref L), some (.ref a10)] = [some (.ref d), some (.int p), some (.int (n : Int)), z3, some (.ref l7), some (.ref L), z6] := fun H' t2 kk2 D2' ht2 eL2 dw2 ha2 rr2 => by
        have tk : Tk H' (upd H' L (.lst (ws' ++ [.ref a10]))) := (Tk.refl _).mut eL2
        have nH : H L = none := by
          cases hq : H L with
          | none => rfl
          | some ob =>
            have kk : Kept d e H H7 := (((Kept.of s1).trans k2).trans (k3.trans (k4.trans k5))).trans (Kept.of (s6.trans s7))
            exact absurd nL (D0.more ⟨_, D7⟩ kk (by rw [hq]; exact fun z => nomatch z))
        refine ⟨((k7'.trans k10).trans kk2).mut nL, ((kH'.trans k10).trans kk2).mut nH, t2, ws' ++ [.ref a10], gs ++ [r10], _, _, D2'.mut bL, by omega, upd_same, ?_, by rw [List.length_append]; simp only [List.length_cons, List.length_nil]; omega, rowsOk_app okg ok10, ?_, rfl⟩
        · rw [List.map_append]
          exact dpAll_append (dpAll_tk tk _ _ (noL_rows gs) dw2) (.cons (row_dp (tk _ _ _ ha2)) .nil)
        · obtain ⟨wr, er, dr⟩ := rr2
          exact ⟨wr, tk _ _ _ er, dpAll_tk tk _ _ (noL_rows room) dr⟩
      refine ⟨.int p, rfl, .ref l7, rfl, .ref L, rfl, .ref a10, rfl, sz1000 (by decide : (1 : Nat) ≤ 1000), fun u nu => ?_⟩
      generalize h11 : upd H10 u _ = H11
      obtain ⟨s11, e11⟩ := new_of h11 nu
      refine ⟨L, u, _, _, rfl, rfl, s11 _ _ eL10, e11, sz1000 (by simp only [List.length_cons, List.length_nil]; omega), fun N nN => ?_⟩
      generalize h12 : upd H11 N _ = H12
      obtain ⟨s12, e12⟩ := new_of h12 nN
      have s1012 := s11.trans s12
      have d12 : DpAll K H12 (ws' ++ [.ref a10]) ((gs ++ [r10]).map rowD) := by
        rw [List.map_append]
        exact dpAll_append (dpAll_same s1012 _ _ dw10) (.cons (row_dp (Same.tup s1012 h10)) .nil)
      refine ⟨l7, N, room, gs ++ [r10], p, n, rfl, RowsAt.same s1012 r10', .inr ⟨_, e12, d12⟩, pf.1, rowsOk_app okg ok10, hF, p1, by omega, by omega, by rw [List.length_append]; simp only [List.length_cons, List.length_nil]; omega, fun H13 s13 => ⟨_, rfl, ite2 (fun _ => ?_) (fun _ => ?_)⟩⟩
      · have s1013 := s1012.trans s13
        have eL13 := s1013 _ _ eL10
        exact ⟨.ref L, rfl, .inl ⟨rfl, _, .inl (.inl eL13)⟩, .ref a10, rfl, L, ws', _, rfl, rfl, eL13, small1000 (by omega), put H13 _ (Kept.of s1013) (D10.same s1013) (by omega) eL13 (dpAll_same s1013 _ _ dw10) (Same.tup s1013 h10) (RowsAt.same s1013 r10')⟩
      · have s1013 := s1012.trans s13
        have D13 := D10.same s1013
        refine ⟨.ref d, rfl, d, c, e, _, 8, rfl, D13, by omega, by decide, by decide, fun H14 z14 k14 D14 z140 z141 => ⟨rfl, _, rfl, ite2 (fun _ => ?_) (fun _ => ?_)⟩⟩
        · have k1014 : Kept d e H10 H14 := (Kept.of s1013).trans k14
          have eL14 := Drw.lst (c := c) k1014 bL eL10
          exact ⟨.ref L, rfl, .inl ⟨rfl, _, .inl (.inl eL14)⟩, .ref a10, rfl, L, ws', _, rfl, rfl, eL14, small1000 (by omega), put H14 _ k1014 D14 (by omega) eL14 (dpAll_tk (D10.tk k1014) _ _ (noL_rows gs) dw10) (D10.tup k1014 h10) (D10.rows k1014 r10')⟩
        · have k1014 : Kept d e H10 H14 := (Kept.of s1013).trans k14
          exact ⟨(k7'.trans k10).trans k1014, (kH'.trans k10).trans k1014, _, ws', gs, _, _, D14, by omega, Drw.lst (c := c) k1014 bL eL10, dpAll_tk (D10.tk k1014) _ _ (noL_rows gs) dw10, by omega, okg, D10.rows k1014 r10', rfl⟩
    · obtain ⟨k7', kH', t', ws', gs, y3, y6, D', ht', eL, dw, lg, okg, r', rfl⟩ := hW
      refine ⟨.int p, rfl, .int n, rfl, .ref l7, rfl, .ref L, rfl, L, _, rfl, .inl ⟨.inl (.inl eL), fun o10 n10 => ?_⟩⟩
      generalize h10 : upd H' o10 _ = H10
      obtain ⟨s10, e10⟩ := new_of h10 n10
      refine ⟨sz1000 (by decide : (4 : Nat) ≤ 1000), fun A nA => ?_⟩
      generalize h11 : upd H10 A _ = H11
      obtain ⟨s11, e11⟩ := new_of h11 nA
      have s1011 := s10.trans s11
      exact q H11 A l7 o10 p n room gs t' (kH'.trans (Kept.of s1011)) (D'.same s1011) (by omega) (.inl (.inl e11)) (RowsAt.same s1011 r') ⟨ws', .inl (.inl (s11 _ _ e10)), dpAll_same s1011 _ _ dw⟩ pf okg (by omega) hF p1 n1 n8

end
end OC

set_option Elab.async false
set_option linter.all false
set_option maxRecDepth 100000
set_option maxHeartbeats 4000000
namespace OC
open PySem PySem.Spec PyProof.Rows L2
section
variable {P : Program} {w : World} {K : PySem.W.Frag} {mg : Str → Option Value} {base : Heap}
def sp_turnsX (K : PySem.W.Frag) (mg : Str → Option Value) : Sp := fun vs H Q E => ∃ (a b : Addr) (room rows : List (List Int)) (p : Int) (n : Nat), vs = [.int p, .int (n : Int), .ref a, .ref b] ∧ RowsAt K H a room ∧ RowsAt K H b rows ∧ PFR p n room ∧ RowsOk p n rows ∧ Fld p ∧ p ≤ 1000 ∧ 1 ≤ n ∧ n ≤ 100 ∧ rows.length ≤ 100 ∧ (plainR p n (room ++ rows)).length ≠ room.length + rows.length ∧
  ∀ H', Same H H' → E (.ref (adr mg "NotFree")) none H'
theorem okx_turns (T : Top K mg) : OkX P w K mg base 8 "turns" ["p", "n", "room", "rows"] (sp_turnsX K mg) := by
  have O_are_free := ok_are_free (P := P) (w := w) (base := base) T
  refine T.d_turns.okX sc_turns (fun vs H Q E h => ?_) (fun f cdv A outer s H vs Q E hr h => ?_)
  · obtain ⟨a, b, room, rows, p, n, rfl, _⟩ := h
    rfl
  · obtain ⟨a, b, room, rows, p, n, rfl, hA, hB, pf, ok, hF, p1, n1, hn, lr, fr, q⟩ := h
    refine ⟨_, (((pss_cons (ps_if (pt_not (pt_val (pe_callO O_are_free (hr.mono (by omega)) (by rfl) (pa_cons (pv 0) (pa_cons (pv 1) (pa_cons (pv 2) (pa_cons (pv 3) pa_nil)))))))
        (pss_one (ps_raise rfl (takes_of rfl rfl rfl rfl) (pmk_own0 PySem.F.excBase_ValueError T.n_NotFree T.e_NotFree.g T.e_NotFree.kp (raises_own T.e_NotFree.b T.e_NotFree.t) rfl)))
        pss_nil)
      (pss_one ps_dead)))), ?_⟩
    have lroom := PFR.len hF pf
    refine ⟨.int p, rfl, .int n, rfl, .ref a, rfl, .ref b, rfl, a, b, room, rows, p, n, rfl, hA, hB, pf, ok, hF, p1, n1, hn, by omega, fun H1 s1 => ⟨_, rfl, ?_⟩⟩
    rw [decide_eq_false fr]
    exact iteT (q H1 s1)

end
end OC

set_option Elab.async false
set_option linter.all false
set_option maxRecDepth 100000
set_option maxHeartbeats 4000000
namespace OC
open PySem PySem.Spec PyProof.Rows L2 LamX
section
variable {P : Program} {w : World} {K : PySem.W.Frag} {mg : Str → Option Value} {base : Heap}
theorem pss_imp {X : Cx} {b : List Stmt} {t t' : TS} (h : PSs X b t) (i : ∀ D σ H, σ.length = X.N.length → t' D σ H → t D σ H) : PSs X b t' := ⟨fun pins s σ H D I q => h.run pins s σ H D I (i D σ H I.len q)⟩
/-- what _law_not_free makes of a lambda: True where it raises NotFree, False where it raises nothing -/
def TTnf (mg : Str → Option Value) : (XK → Hp → VK → Prop) → Hp → VK → Prop := fun tl H Q => tl (fun cls d H' => cls = .ref (adr mg "NotFree") ∧ d = none ∧ ∀ H'', Same H' H'' → Q (.bl true) H'') H (fun _ H' => Q (.bl false) H')
theorem notfree_gives {X : Cx} (T : Top X.K X.mg) {g : Addr} {cdg : Value} {q : Str} : GivesTo X N__law_not_free "_law_not_free" (defScope s__law_not_free) g cdg (defBody s__law_not_free) "_law_ask" q (TTnf X.mg) := by
  intro f c' s H Q tl act hc h
  refine ⟨_, pss_cons (ps_try_as (X := (cxOf C8.CX0 X.prog X.w X.K X.mg X.base N__law_not_free "_law_not_free" (defScope s__law_not_free) g cdg X.A X.stack s H C8.E0).nox) (c := .ref (adr X.mg "CallError")) (i := 1)
      (tb := fun W D σ H => ∃ Ech : XK, (∀ cls d σ' H', Ech cls d H' → W cls d σ' H') ∧ σ[0]? = some (some (.ref f)) ∧ H c' = some (CodeO c' q) ∧ tl Ech H (fun _ H' => D.nx σ H'))
      (ts := fun a cls d D σ H => (cls = .ref (adr X.mg "NotFree") ∧ d = none) ∧ (σ.length = 2 → σ[1]? = some (some (.ref a))) ∧ ∀ H'', Same H H'' → D.rt (.bl true) H'')
      rfl rfl sc__law_not_free.nd rfl rfl ⟨(by rfl), (by decide), .inl T.e_CallError.g⟩ L2.takes0 (fun W pn xe tk _ => ?_) (fun a oe cls d pn hz hf => pss_pre fun hp => ?_)) (pss_one (ps_ret pe_bl)), ?_⟩
  · refine ⟨fun pins s' σ H' D I h' => ?_⟩
    obtain ⟨Ech, hW, h1, h2, h3⟩ := h'
    exact (pss_one (ps_expr (act W pn xe Ech _ _ tk hW))).run pins s' σ H' D I ⟨h1, h2, h3⟩
  · obtain ⟨rfl, rfl⟩ := hp
    have iE := call_isE (X := (cxOf C8.CX0 X.prog X.w X.K X.mg X.base N__law_not_free "_law_not_free" (defScope s__law_not_free) g cdg X.A X.stack s H C8.E0).nox) (a := a) (pn := pn) T.e_NotFree.c hz hf
    have iT := call_isET (X := (cxOf C8.CX0 X.prog X.w X.K X.mg X.base N__law_not_free "_law_not_free" (defScope s__law_not_free) g cdg X.A X.stack s H C8.E0).nox) (a := a) (pn := pn) T.e_NotFree.c hz hf
    refine pss_imp (pss_one (ps_ret (pe_and (pe_callB iE (by rfl) T.b_isinstance (by decide +kernel) (pa_cons (pv 1) (pa_cons (pe_glob (v := .ref _) (by rfl) T.e_NotFree.g rfl) pa_nil)))
      (pe_and (pe_callB iE (by rfl) T.b_isinstance (by decide +kernel) (pa_cons (pv 1) (pa_cons (pe_bltn (v := .ty "ValueError") (u := .type "ValueError") (by rfl) T.b_ValueError (by decide +kernel) rfl) pa_nil)))
      (pe_one (pe_not (pe_callB iT (by rfl) T.b_isinstance (by decide +kernel) (pa_cons (pv 1) (pa_cons (pe_tup (pa_cons (pe_glob (v := .ref _) (by rfl) T.e_NoRow.g rfl) (pa_cons (pe_glob (v := .ref _) (by rfl) T.e_Full.g rfl) (pa_cons (pe_glob (v := .ref _) (by rfl) T.e_NotKnown.g rfl) pa_nil)))) pa_nil))))))))) (fun D σ H l h => ?_)
    obtain ⟨h1, h2⟩ := h
    refine ⟨.ref a, h1 l, _, _, true, rfl, fun u r => r, kit_self, true, rfl, iteT ?_⟩
    refine ⟨.ref a, h1 l, _, _, true, rfl, fun u r => r, kit_blt (by decide +kernel) T.s_NotFree_ValueError, true, rfl, iteT ?_⟩
    refine ⟨.ref a, h1 l, sz1000 (by decide : (3 : Nat) ≤ 1000), fun t nt => ?_⟩
    generalize h7 : upd H t _ = H7
    obtain ⟨s7, e7⟩ := new_of h7 nt
    refine ⟨t, _, _, false, rfl, e7, .cons (.own _) (.cons (.own _) (.cons (.own _) .nil)), ?_, false, rfl, h2 H7 s7⟩
    have k1 := kit_own (x := "NotFree") T.e_NoRow T.s_NotFree_NoRow (fun z => absurd z (adr_ne T.s_NotFree_NoRow T.s_NoRow_NoRow))
    have k2 := kit_own (x := "NotFree") T.e_Full T.s_NotFree_Full (fun z => absurd z (adr_ne T.s_NotFree_Full T.s_Full_Full))
    have k3 := kit_own (x := "NotFree") T.e_NotKnown T.s_NotFree_NotKnown (fun z => absurd z (adr_ne T.s_NotFree_NotKnown T.s_NotKnown_NotKnown))
    exact kitAny_cons k1 (fun _ => kitAny_cons k2 (fun _ => kitAny_cons k3 (fun _ => kitAny_nil) (fun z => nomatch z)) (fun z => nomatch z)) (fun z => nomatch z)
  · refine ⟨fun cls d H' => cls = .ref (adr X.mg "NotFree") ∧ d = none ∧ ∀ H'', Same H' H'' → Q (.bl true) H'', fun cls d σ' H' hh => ?_, rfl, hc, h⟩
    obtain ⟨e1, e2, hq⟩ := hh
    subst e1 e2
    exact ⟨true, T.e_CallError.exm T.s_NotFree_CallError, fun _ a _ => ⟨⟨rfl, rfl⟩, fun l => by rw [List.length_set] at l; exact List.getElem?_set_self (by omega), hq⟩, fun z => nomatch z⟩

end
end OC

set_option Elab.async false
set_option linter.all false
set_option maxRecDepth 100000
set_option maxHeartbeats 4000000
namespace OC
open PySem PySem.Spec PyProof.Rows L2
section
variable {P : Program} {w : World} {K : PySem.W.Frag} {mg : Str → Option Value} {base : Heap}
/-- the world led on by one row's turn -/
def stepW (p : Int) (w t r : List Int) (x : Int) : List Int := addR p w (timesR p ((x - worthR p r w) % p) t)
def withR (p : Int) (ts rows : List (List Int)) (xs : List Int) (w : List Int) : Nat → List Int
  | 0 => w
  | k + 1 => stepW p (withR p ts rows xs w k) (ts.getD k []) (rows.getD k []) (xs.getD k 0)
theorem step_ok {p : Int} (hF : Fld p) {n : Nat} {w t : List Int} (r : List Int) (x : Int) (okw : RowsOk p n [w]) (okt : RowsOk p n [t]) : RowsOk p n [stepW p w t r x] := by
  have p2 := hF.1
  have hw := okw w List.mem_cons_self
  have ht := okt t List.mem_cons_self
  refine rowsOk_one ⟨by unfold stepW; rw [add_len (by rw [times_len, hw.1, ht.1]), hw.1], ?_⟩
  exact add_ok (by omega)
theorem step_worth {p : Int} (hF : Fld p) {n : Nat} {w t r' : List Int} (r : List Int) (x : Int) (okw : RowsOk p n [w]) (okt : RowsOk p n [t]) : worthR p r' (stepW p w t r x) = (worthR p r' w + ((x - worthR p r w) % p) * worthR p r' t % p) % p := by
  unfold stepW
  rw [worth_swap, worth_add _ _ _ _ (by rw [times_len, (okw w List.mem_cons_self).1, (okt t List.mem_cons_self).1]), worth_times, worth_swap p w r', worth_swap p t r']
theorem with_right {p : Int} (hF : Fld p) {n : Nat} {room rows : List (List Int)} (pf : PFR p n room) (ok : RowsOk p n rows) (fr : (plainR p n (room ++ rows)).length = room.length + rows.length) {w xs : List Int} (okw : RowsOk p n [w]) (lx : xs.length = rows.length) (bx : ∀ x ∈ xs, 0 ≤ x ∧ x < p) :
    ∀ k, k ≤ rows.length → RowsOk p n [withR p (turnsR p n room rows) rows xs w k] ∧ (∀ j (hj : j < rows.length), j < k → worthR p rows[j] (withR p (turnsR p n room rows) rows xs w k) = xs.getD j 0) ∧ ∀ o ∈ room, worthR p o (withR p (turnsR p n room rows) rows xs w k) = worthR p o w
  | 0, _ => ⟨okw, fun j hj h => absurd h (Nat.not_lt_zero _), fun o _ => rfl⟩
  | k + 1, hk => by
    have p2 := hF.1
    obtain ⟨h1, h2, h3⟩ := with_right hF pf ok fr okw lx bx k (by omega)
    obtain ⟨u, gu, oku, w1, w0, wr⟩ := turns_each hF pf ok fr (i := k) (by omega)
    have eu : (turnsR p n room rows).getD k [] = u := by rw [List.getD_eq_getElem?_getD, gu]; rfl
    have er : rows.getD k [] = rows[k] := by rw [List.getD_eq_getElem?_getD, List.getElem?_eq_getElem (by omega)]; rfl
    show RowsOk p n [stepW _ _ _ _ _] ∧ _
    rw [show withR p (turnsR p n room rows) rows xs w (k + 1) = stepW p (withR p (turnsR p n room rows) rows xs w k) ((turnsR p n room rows).getD k []) (rows.getD k []) (xs.getD k 0) from rfl, eu, er]
    generalize withR p (turnsR p n room rows) rows xs w k = v at h1 h2 h3
    have vb : ∀ r : List Int, worthR p r v % p = worthR p r v := fun r => Int.emod_eq_of_lt (worth_bd (by omega)).1 (worth_bd (by omega)).2
    refine ⟨step_ok hF _ _ h1 oku, fun j hj hjk => ?_, fun o ho => ?_⟩
    · rw [step_worth hF _ _ h1 oku]
      by_cases e : j = k
      · subst e
        rw [w1, Int.mul_one, Int.emod_emod_of_dvd _ (Int.dvd_refl p), Int.add_emod, Int.emod_emod_of_dvd _ (Int.dvd_refl p), ← Int.add_emod]
        rw [show worthR p rows[j] v + (xs.getD j 0 - worthR p rows[j] v) = xs.getD j 0 by omega]
        have : xs.getD j 0 ∈ xs := by
          rw [List.getD_eq_getElem?_getD, List.getElem?_eq_getElem (by omega)]
          exact List.getElem_mem _
        exact Int.emod_eq_of_lt (bx _ this).1 (bx _ this).2
      · rw [w0 j hj e, Int.mul_zero, Int.zero_emod, Int.add_zero, vb]
        exact h2 j hj (by omega)
    · rw [step_worth hF _ _ h1 oku, wr o ho, Int.mul_zero, Int.zero_emod, Int.add_zero, vb]
      exact h3 o ho
def sp_with (K : PySem.W.Frag) : Sp := fun vs H Q _ => ∃ (a b c e : Addr) (room rows : List (List Int)) (wd xs : List Int) (p : Int) (n : Nat), vs = [.int p, .int (n : Int), .ref a, .ref b, .ref c, .ref e] ∧ RowsAt K H a room ∧ RowsAt K H b rows ∧ SqT K H c (wd.map V.int) ∧ SqT K H e (xs.map V.int) ∧ PFR p n room ∧ RowsOk p n rows ∧ RowsOk p n [wd] ∧ xs.length = rows.length ∧ (∀ x ∈ xs, 0 ≤ x ∧ x < p) ∧ Fld p ∧ p ≤ 1000 ∧ 1 ≤ n ∧ n ≤ 100 ∧ rows.length ≤ 100 ∧ (plainR p n (room ++ rows)).length = room.length + rows.length ∧
  ∀ H' l, Same H H' → SqT K H' l ((withR p (turnsR p n room rows) rows xs wd rows.length).map V.int) → Q (.ref l) H'
theorem ok_with_rests (T : Top K mg) : Ok P w K mg base 9 "with_rests" ["p", "n", "room", "rows", "world", "rests"] (sp_with K) := by
  have O_turns := ok_turns (P := P) (w := w) (base := base) T
  have O_added := ok_added (P := P) (w := w) (base := base) T
  have O_times := ok_times (P := P) (w := w) (base := base) T
  have O_worth := ok_worth (P := P) (w := w) (base := base) T
  refine T.d_with_rests.ok sc_with_rests (fun vs H Q E h => ?_) (fun f cdv A outer s H vs Q E hr h => ?_)
  · obtain ⟨a, b, c, e, room, rows, wd, xs, p, n, rfl, _⟩ := h
    rfl
  · obtain ⟨a, b, c, e, room, rows, wd, xs, p, n, rfl, hA, hB, hC, hE, pf, ok, okw, lx, bx, hF, p1, n1, hn, lr, fr, q⟩ := h
    refine ⟨_, ((pss_cons (ps_for PassesOwn.never (by rfl) (pi_zip3 (by rfl) T.b_zip (pa_cons (pe_callO O_turns (hr.mono (by omega)) (by rfl) (pa_cons (pv 0) (pa_cons (pv 1) (pa_cons (pv 2) (pa_cons (pv 3) pa_nil))))) (pa_cons (pv 3) (pa_cons (pv 5) pa_nil)))) (pg_tup (by rfl) (pgs_cons (pg_name (i := 6) sc_with_rests.nd rfl (.inl rfl)) (pgs_cons (pg_name (i := 7) sc_with_rests.nd rfl (.inl rfl)) (pgs_cons (pg_name (i := 8) sc_with_rests.nd rfl (.inl rfl)) pgs_nil))))
        (pss_one (ps_set (i := 4) sc_with_rests.nd rfl (.inl rfl) (pe_callO O_added (hr.mono (by omega)) (by rfl) (pa_cons (pv 0) (pa_cons (pv 4) (pa_cons (pe_callO O_times (hr.mono (by omega)) (by rfl) (pa_cons (pv 0) (pa_cons (pe_op op_mod (pe_op op_sub (pv 8) (pe_callO O_worth (hr.mono (by omega)) (by rfl) (pa_cons (pv 0) (pa_cons (pv 7) (pa_cons (pv 4) pa_nil))))) (pv 0)) (pa_cons (pv 6) pa_nil)))) pa_nil)))))))
      (pss_one (ps_ret (pv 4))))), ?_⟩
    have p2 := hF.1
    refine ⟨.int p, rfl, .int n, rfl, .ref a, rfl, .ref b, rfl, a, b, room, rows, p, n, rfl, hA, hB, pf, ok, hF, p1, n1, hn, lr, fr, fun H1 l1 s1 h1 => ?_⟩
    obtain ⟨wt, et, dt⟩ := h1
    obtain ⟨wb, eb, db⟩ := RowsAt.same s1 hB
    have hE1 := Same.tup s1 hE
    have hC1 := Same.tup s1 hC
    have lwt := rows_len dt
    have lwb := rows_len db
    have tl := turns_len (p := p) (n := n) (room := room) (rows := rows)
    have math := with_right hF pf ok fr okw lx bx
    have okT : ∀ k u, (turnsR p n room rows)[k]? = some u → RowsOk p n [u] := fun k u hk => by
      obtain ⟨u', gu, oku, _⟩ := turns_each hF pf ok fr (i := k) (by have := (List.getElem?_eq_some_iff.mp hk).1; omega)
      rw [hk] at gu
      cases gu
      exact oku
    generalize turnsR p n room rows = us at dt q lwt tl math okT
    refine ⟨.ref b, rfl, .ref e, rfl, l1, b, e, wt, wb, xs.map V.int, rfl, et, eb, hE1, for_it (walk_zip3 (K := K) (a := l1) (b := b) (c := e) (n := rows.length) (by omega) (by omega) (by rw [List.length_map]; omega)) (fun i σ H' => Same H1 H' ∧ ∃ (l : Addr) (y6 y7 y8 : Option V), SqT K H' l ((withR p us rows xs wd i).map V.int) ∧ σ = [some (.int p), some (.int (n : Int)), some (.ref a), some (.ref b), some (.ref l), some (.ref e), y6, y7, y8]) ⟨Same.refl _, c, none, none, none, hC1, rfl⟩ (fun i σ H' _ hW => ⟨Same.tup hW.1 et, Same.tup hW.1 eb, Same.tup hW.1 hE1⟩) (fun i v σ H2 H3 hi hW hY => ?_) (fun σ H2 hW => ?_)⟩
    · obtain ⟨Ta, x1, x2, x3, rfl, nT, rfl, g1, g2, g3⟩ := hY
      obtain ⟨s2, l, y6, y7, y8, hl, rfl⟩ := hW
      have g1 : wt[i]? = some x1 := g1
      have g2 : wb[i]? = some x2 := g2
      have g3 : (xs.map V.int)[i]? = some x3 := g3
      obtain ⟨t', u, rfl, gu, mu, hu⟩ := dpAll_row (dpAll_same s2 _ _ dt) g1
      obtain ⟨r', r, rfl, gr, mr, hrr⟩ := dpAll_row (dpAll_same s2 _ _ db) g2
      rw [List.getElem?_map] at g3
      obtain ⟨x, gx, rfl⟩ := Option.map_eq_some_iff.mp g3
      have sT : Same H2 (upd H2 Ta (.tup [.ref t', .ref r', .int x])) := same_upd nT
      have eT : (upd H2 Ta (.tup [V.ref t', .ref r', .int x])) Ta = some (.tup [.ref t', .ref r', .int x]) := upd_same
      generalize upd H2 Ta (.tup [V.ref t', .ref r', .int x]) = H3 at sT eT
      refine ⟨Ta, [.ref t', .ref r', .int x], rfl, .inl (.inl eT), rfl, _, _, rfl, _, _, rfl, _, _, rfl, rfl, ?_⟩
      have oku := okT i u gu u List.mem_cons_self
      have okr := ok r mr
      have okv := (math i (by omega)).1 _ List.mem_cons_self
      have hl3 := Same.tup sT hl
      have hu3 := Same.tup sT hu
      have hr3 := Same.tup sT hrr
      have val : withR p us rows xs wd (i + 1) = stepW p (withR p us rows xs wd i) u r x := by
        show stepW p _ (us.getD i []) (rows.getD i []) (xs.getD i 0) = _
        rw [List.getD_eq_getElem?_getD, List.getD_eq_getElem?_getD, List.getD_eq_getElem?_getD, gu, gr, gx]
        rfl
      generalize withR p us rows xs wd i = v at hl hl3 okv val
      refine ⟨.int p, rfl, .ref l, rfl, .int p, rfl, .int x, rfl, .int p, rfl, .ref r', rfl, .ref l, rfl, r', l, r, v, p, rfl, hr3, hl3, by rw [okr.1]; omega, by omega, by omega, okr.2, fun H4 s4 => ?_⟩
      refine ⟨_, _, rfl, rfl, .int p, rfl, _, _, rfl, rfl, by show (0 : Int) < p; omega, .ref t', rfl, t', u, p, _, rfl, Same.tup s4 hu3, by rw [oku.1]; omega, by omega, ?_, ?_, fun H5 l5 s5 n5 e5 => ?_⟩
      · have := Int.emod_nonneg (x - worthR p r v) (show p ≠ 0 by omega)
        omega
      · have := Int.emod_lt_of_pos (x - worthR p r v) (show 0 < p by omega)
        omega
      refine ⟨l, l5, v, _, p, rfl, Same.tup (s4.trans s5) hl3, .inl (.inl e5), by rw [okv.1]; omega, by omega, fun H6 l6 s6 n6 e6 => ?_⟩
      exact ⟨(s2.trans sT).trans (s4.trans (s5.trans s6)), l6, _, _, _, .inl (.inl (by rw [val]; exact e6)), rfl⟩
    · obtain ⟨s2, l, y6, y7, y8, hl, rfl⟩ := hW
      exact ⟨.ref l, rfl, q H2 l (s1.trans s2) hl⟩
def sp_withX (K : PySem.W.Frag) (mg : Str → Option Value) : Sp := fun vs H Q E => ∃ (a b : Addr) (v5 v6 : V) (room rows : List (List Int)) (p : Int) (n : Nat), vs = [.int p, .int (n : Int), .ref a, .ref b, v5, v6] ∧ RowsAt K H a room ∧ RowsAt K H b rows ∧ PFR p n room ∧ RowsOk p n rows ∧ Fld p ∧ p ≤ 1000 ∧ 1 ≤ n ∧ n ≤ 100 ∧ rows.length ≤ 100 ∧ (plainR p n (room ++ rows)).length ≠ room.length + rows.length ∧
  ∀ H', Same H H' → E (.ref (adr mg "NotFree")) none H'
theorem okx_with_rests (T : Top K mg) : OkX P w K mg base 9 "with_rests" ["p", "n", "room", "rows", "world", "rests"] (sp_withX K mg) := by
  have OX_turns := okx_turns (P := P) (w := w) (base := base) T
  refine T.d_with_rests.okX sc_with_rests (fun vs H Q E h => ?_) (fun f cdv A outer s H vs Q E hr h => ?_)
  · obtain ⟨a, b, v5, v6, room, rows, p, n, rfl, _⟩ := h
    rfl
  · obtain ⟨a, b, v5, v6, room, rows, p, n, rfl, hA, hB, pf, ok, hF, p1, n1, hn, lr, fr, q⟩ := h
    refine ⟨_, (pss_cons (ps_for (passes_of rfl) (by rfl) (pi_zip3 (by rfl) T.b_zip (pa_cons (pe_callX OX_turns (takes_of rfl rfl rfl rfl) (hr.mono (by omega)) (by rfl) (pa_cons (pv 0) (pa_cons (pv 1) (pa_cons (pv 2) (pa_cons (pv 3) pa_nil))))) (pa_cons (pv 3) (pa_cons (pv 5) pa_nil)))) (pg_tup (by rfl) (pgs_cons (pg_name (i := 6) sc_with_rests.nd rfl (.inl rfl)) (pgs_cons (pg_name (i := 7) sc_with_rests.nd rfl (.inl rfl)) (pgs_cons (pg_name (i := 8) sc_with_rests.nd rfl (.inl rfl)) pgs_nil))))
      (pss_one ps_dead)) (pss_one ps_dead)), ?_⟩
    exact ⟨.int p, rfl, .int n, rfl, .ref a, rfl, .ref b, rfl, a, b, room, rows, p, n, rfl, hA, hB, pf, ok, hF, p1, n1, hn, lr, fr, q⟩

end
end OC

set_option Elab.async false
set_option linter.all false
set_option maxRecDepth 100000
set_option maxHeartbeats 4000000
namespace OC
open PySem PySem.Spec PyProof.Rows L2 LamX
section
variable {P : Program} {w : World} {K : PySem.W.Frag} {mg : Str → Option Value} {base : Heap}
theorem worths_eq {p : Int} {w : List Int} (rows : List (List Int)) : (rows.map rowD).map (fun d => V.int (worthR p (intsOf d) w)) = (rows.map fun r => worthR p r w).map V.int := by
  rw [List.map_map, List.map_map]
  exact List.map_congr_left fun r _ => by show V.int (worthR p (intsOf (rowD r)) w) = _; rw [ints_row]; rfl
structure TopL (K : PySem.W.Frag) (mg : Str → Option Value) (base : Heap) (cT PT : Addr) : Prop where
  t : Top K mg
  c : DfC K mg "_law_right" s__law_right ["_law_p", "_law_n", "_law_room", "_law_rows", "_law_world", "_law_rests"] cT
  b : LamX.TabB base mg cT PT
abbrev lamQ : Str := (envOfC "_law_right" (defScope s__law_right) 0 0 .none).qual ++ "<lambda>"
def sp_lright (K : PySem.W.Frag) (PT : Addr) : Sp := fun vs H Q _ => ∃ (a b c e : Addr) (room rows : List (List Int)) (wd xs : List Int) (p : Int) (n : Nat), vs = [.int p, .int (n : Int), .ref a, .ref b, .ref c, .ref e] ∧ RowsAt K H a room ∧ RowsAt K H b rows ∧ SqT K H c (wd.map V.int) ∧ SqT K H e (xs.map V.int) ∧ PFR p n room ∧ RowsOk p n rows ∧ RowsOk p n [wd] ∧ xs.length = rows.length ∧ (∀ x ∈ xs, 0 ≤ x ∧ x < p) ∧ Fld p ∧ p ≤ 1000 ∧ 1 ≤ n ∧ n ≤ 8 ∧ rows.length ≤ 8 ∧ LamX.Tabs (T1 PT lamQ) H ∧
  ∀ H', LamX.ExtN H H' → LamX.Tabs (T1 PT lamQ) H' → Q (.bl true) H'
theorem ok__law_right {cT PT : Addr} (Z : TopL K mg base cT PT) : Ok P w K mg base 12 "_law_right" ["_law_p", "_law_n", "_law_room", "_law_rows", "_law_world", "_law_rests"] (sp_lright K PT) := by
  have T := Z.t
  have O__law_free := ok__law_free (P := P) (w := w) (base := base) T
  have O_with_rests := ok_with_rests (P := P) (w := w) (base := base) T
  have OX_with_rests := okx_with_rests (P := P) (w := w) (base := base) T
  have O__law_is_row := ok__law_is_row (P := P) (w := w) (base := base) T
  have O__law_worth := ok__law_worth (P := P) (w := w) (base := base) T
  refine Z.c.ok sc__law_right (fun vs H Q E h => ?_) (fun f A outer s H vs Q E hr h => ?_)
  · obtain ⟨a, b, c, e, room, rows, wd, xs, p, n, rfl, _⟩ := h
    rfl
  · obtain ⟨a, b, c, e, room, rows, wd, xs, p, n, rfl, hA, hB, hC, hE, pf, ok, okw, lx, bx, hF, p1, n1, n8, lr, hT, q⟩ := h
    refine ⟨_, ((pss_cons (ps_if (pt_not (pt_val (pe_callO O__law_free (hr.mono (by omega)) (by rfl) (pa_cons (pv 0) (pa_cons (pv 2) (pa_cons (pv 3) pa_nil))))))
        (pss_one (ps_ret (pe_lamD (T := T1 PT lamQ) (k := 9) Z.t.d__law_not_free sc__law_not_free rfl (.inl rfl) (by rfl) (fun g cdv => notfree_gives Z.t) Z.b rfl (List.mem_singleton.mpr rfl) (fun q hq _ => by rw [List.mem_singleton.mp hq]; rfl) (hr.mono (by omega)) (show LamS (defScope s__law_right) _ from lamS_by (by decide +kernel)) rfl (fun _ _ _ _ _ => rfl) (fun A outer s H E f c' hr' => pe_callX OX_with_rests (takes_of rfl rfl rfl rfl) (hr'.mono (by omega)) (by rfl) (pa_cons (pv 0) (pa_cons (pv 1) (pa_cons (pv 2) (pa_cons (pv 3) (pa_cons (pv 4) (pa_cons (pv 5) pa_nil))))))))))
        pss_nil)
      (pss_cons (ps_set (i := 6) sc__law_right.nd rfl (.inr rfl) (pe_callO O_with_rests (hr.mono (by omega)) (by rfl) (pa_cons (pv 0) (pa_cons (pv 1) (pa_cons (pv 2) (pa_cons (pv 3) (pa_cons (pv 4) (pa_cons (pv 5) pa_nil))))))))
      (pss_cons (ps_if (PW.pt (pw_or (pt_not (pt_val (pe_callO O__law_is_row (hr.mono (by omega)) (by rfl) (pa_cons (pv 0) (pa_cons (pv 1) (pa_cons (pv 6) pa_nil)))))) (pw_or1 (pt_cmpR (op_neD hr.units) (pe_callTy call_tuple_of (by rfl) T.b_tuple (by decide +kernel) (pa_cons (pe_lc (own := [("_law_row_here", 7)]) (g := gName 7) (by rfl) sc__law_right.nd (pi_tup (pv 3)) (blkOk_by (own := [("_law_row_here", 7)]) (N := N__law_right) (sc := defScope s__law_right) (by decide +kernel)) (fun _ _ _ _ _ => (pg_name (i := 7) sc__law_right.nd rfl (.inl rfl))) (fun _ _ _ _ _ => pts_nil) (fun _ _ _ _ _ => (pe_callO O__law_worth (hr.mono (by omega)) (by rfl) (pa_cons (pv 0) (pa_cons (pv 7) (pa_cons (pv 6) pa_nil)))))) pa_nil)) (pv 5) (nomark _)))))
        (pss_one (ps_ret pe_bl))
        pss_nil)
      (pss_cons (ps_if (pt_cmpR (op_neNil hr.units) (pe_lc (own := [("_law_row_here", 7)]) (g := gName 7) (by rfl) sc__law_right.nd (pi_tup (pv 2)) (blkOk_by (own := [("_law_row_here", 7)]) (N := N__law_right) (sc := defScope s__law_right) (by decide +kernel)) (fun _ _ _ _ _ => (pg_name (i := 7) sc__law_right.nd rfl (.inl rfl))) (fun _ _ _ _ _ => (pts_one (pt_cmpR op_ne (pe_callO O__law_worth (hr.mono (by omega)) (by rfl) (pa_cons (pv 0) (pa_cons (pv 7) (pa_cons (pv 6) pa_nil)))) (pe_callO O__law_worth (hr.mono (by omega)) (by rfl) (pa_cons (pv 0) (pa_cons (pv 7) (pa_cons (pv 4) pa_nil)))) (nomark _)))) (fun _ _ _ _ _ => (pv 7))) (pe_lst pa_nil) (nomark _))
        (pss_one (ps_ret pe_bl))
        pss_nil)
      (pss_one (ps_ret (pe_cmpR (op_eqD hr.units) (pe_callO O_with_rests (hr.mono (by omega)) (by rfl) (pa_cons (pv 0) (pa_cons (pv 1) (pa_cons (pv 2) (pa_cons (pv 3) (pa_cons (pv 4) (pa_cons (pv 5) pa_nil))))))) (pv 6) (nomark _))))))))), ?_⟩
    have lroom := PFR.len hF pf
    have p2 := hF.1
    refine ⟨.int p, rfl, .ref a, rfl, .ref b, rfl, a, b, room, rows, p, n, rfl, hA, .inl hB, pf.1, ok, hF, p1, by omega, by omega, by omega, fun H1 s1 => ?_⟩
    have fe : freeB p n room rows = decide ((plainR p n (room ++ rows)).length = room.length + rows.length) := by
      unfold freeB
      rw [pf.2]
    rw [fe]
    by_cases fr : (plainR p n (room ++ rows)).length = room.length + rows.length
    · rw [decide_eq_true fr]
      refine ⟨_, rfl, iteF ?_⟩
      refine ⟨.int p, rfl, .int n, rfl, .ref a, rfl, .ref b, rfl, .ref c, rfl, .ref e, rfl, a, b, c, e, room, rows, wd, xs, p, n, rfl, RowsAt.same s1 hA, RowsAt.same s1 hB, Same.tup s1 hC, Same.tup s1 hE, pf, ok, okw, lx, bx, hF, p1, n1, by omega, by omega, fr, fun H2 l s2 h2 => ?_⟩
      have s12 := s1.trans s2
      obtain ⟨okF, m1, m2⟩ := with_right hF pf ok fr okw lx bx rows.length (Nat.le_refl _)
      generalize hus : withR p (turnsR p n room rows) rows xs wd rows.length = F at h2 okF m1 m2
      have okf := okF F List.mem_cons_self
      have hA2 := RowsAt.same s12 hA
      obtain ⟨wb, eb, db⟩ := RowsAt.same s12 hB
      obtain ⟨wa, ea, da⟩ := RowsAt.same s12 hA
      have la := rows_len da
      have lb := rows_len db
      refine ⟨.int p, rfl, .int n, rfl, .ref l, rfl, p, n, .ref l, rowD F, rfl, row_rep h2, by show (F.map PyData.int).length ≤ 1000; rw [List.length_map, okf.1]; omega, n1, by omega, fun H3 s3 => ⟨_, rfl, ?_⟩⟩
      rw [isRow_row okf]
      refine iteF ?_
      have s13 := s12.trans s3
      have h3 := Same.tup s3 h2
      have eb3 := Same.tup s3 eb
      refine ⟨.ref b, rfl, b, rfl, ⟨_, eb3⟩, lc_valR (K := K) (fun d => V.int (worthR p (intsOf d) F)) (walk_tup (K := K) (a := b) (xs := wb)) (fun H' s => Same.tup s eb3) (rep_rows (dpAll_same s3 _ _ db)) (by omega) (fun _ => rfl) (fun v d H' Q' md rv sm hQ => ?_) (fun D H4 s4 nD eD => ?_)⟩
      · obtain ⟨x, mx, rfl⟩ := List.mem_map.mp md
        obtain ⟨o, rfl, ho⟩ := rep_row rv
        have okx := ok x mx
        simp only [ints_row] at hQ
        exact ⟨.int p, rfl, .ref o, rfl, .ref l, rfl, o, l, x, F, p, rfl, ho, Same.tup sm h3, by omega, by omega, by omega, okx.2, hQ⟩
      rw [worths_eq] at eD
      have wx : (rows.map fun r => worthR p r F) = xs := by
        refine List.ext_getElem (by rw [List.length_map]; omega) fun j h1 h2 => ?_
        rw [List.length_map] at h1
        rw [List.getElem_map, m1 j h1 h1, List.getD_eq_getElem?_getD, List.getElem?_eq_getElem h2]
        rfl
      rw [wx] at eD
      refine ⟨D, _, rfl, .inl ⟨.inl (.inl eD), fun o no => ?_⟩⟩
      generalize h5 : upd H4 o _ = H5
      obtain ⟨s5, e5⟩ := new_of h5 no
      have s35 := s4.trans s5
      refine ⟨.ref e, rfl, rowD xs, rowD xs, row_dp (.inl (.inl e5)), row_dp (Same.tup (s12.trans (s3.trans s35)) hE), shaped_row _, shaped_row _, _, rfl, ?_⟩
      rw [eqv_row_dec, decide_eq_true rfl]
      refine iteF ?_
      have ea5 := Same.tup (s3.trans s35) ea
      refine ⟨.ref a, rfl, a, rfl, ⟨_, ea5⟩, lc_filterR (K := K) (fun d => !decide (worthR p (intsOf d) F = worthR p (intsOf d) wd)) (walk_tup (K := K) (a := a) (xs := wa)) (fun H' s => Same.tup s ea5) (rep_rows (dpAll_same (s3.trans s35) _ _ da)) (by omega) (fun _ => rfl) (by show (7 : Nat) < 8; decide) (fun v d H' Q' md rv sm hQ => ?_) (fun D2 H6 w6 s6 nD2 eD2 rD2 => ?_)⟩
      · obtain ⟨x, mx, rfl⟩ := List.mem_map.mp md
        obtain ⟨o', rfl, ho⟩ := rep_row rv
        have okx := pf.1 x mx
        simp only [ints_row] at hQ
        refine ⟨.int p, rfl, .ref o', rfl, .ref l, rfl, o', l, x, F, p, rfl, ho, Same.tup (s35.trans sm) h3, by omega, by omega, by omega, okx.2, fun H7 s7 => ?_⟩
        refine ⟨.int p, rfl, .ref o', rfl, .ref c, rfl, o', c, x, wd, p, rfl, Same.tup s7 ho, Same.tup ((s12.trans (s3.trans s35)).trans (sm.trans s7)) hC, by omega, by omega, by omega, okx.2, fun H8 s8 => ?_⟩
        refine ⟨rfl, _, rfl, ?_⟩
        have := hQ H8 ((Same.refl _).trans (s7.trans s8))
        rw [show (!decide (V.int (worthR p x F) = V.int (worthR p x wd))) = !decide (worthR p x F = worthR p x wd) by
          congr 1
          exact decide_eq_decide.mpr ⟨fun z => V.int.inj z, fun z => by rw [z]⟩]
        exact this
      have nil6 : w6 = [] := by
        have : (room.map rowD).filter (fun d => !decide (worthR p (intsOf d) F = worthR p (intsOf d) wd)) = [] := List.filter_eq_nil_iff.mpr fun d hd => by
          obtain ⟨x, mx, rfl⟩ := List.mem_map.mp hd
          rw [ints_row, m2 x mx, decide_eq_true rfl]
          decide
        rw [this] at rD2
        cases rD2
        rfl
      subst nil6
      refine ⟨Nat.zero_le _, fun z nz => ?_⟩
      generalize h7 : upd H6 z _ = H7
      obtain ⟨s7, e7⟩ := new_of h7 nz
      refine ⟨D2, z, [], rfl, rfl, s7 _ _ eD2, e7, _, rfl, ?_⟩
      refine iteF ?_
      have s17 : Same H2 H7 := (s3.trans s35).trans (s6.trans s7)
      have s07 := s12.trans s17
      refine ⟨.int p, rfl, .int n, rfl, .ref a, rfl, .ref b, rfl, .ref c, rfl, .ref e, rfl, a, b, c, e, room, rows, wd, xs, p, n, rfl, RowsAt.same s07 hA, RowsAt.same s07 hB, Same.tup s07 hC, Same.tup s07 hE, pf, ok, okw, lx, bx, hF, p1, n1, by omega, by omega, fr, fun H8 l8 s8 h8 => ?_⟩
      rw [hus] at h8
      refine ⟨.ref l, rfl, rowD F, rowD F, row_dp h8, row_dp (Same.tup (s17.trans s8) h2), shaped_row _, shaped_row _, ?_⟩
      rw [eqv_row_dec, decide_eq_true rfl]
      exact q H8 (OC.ExtN.same (s07.trans s8)) (OC.Tabs.same hT (s07.trans s8))
    · rw [decide_eq_false fr]
      refine ⟨_, rfl, iteT ?_⟩
      refine ⟨OC.Tabs.same hT s1, fun H2 e2 T2 => ?_⟩
      have up : ∀ {v : Addr} {rs : List (List Int)}, RowsAt K H v rs → RowsAt K H2 v rs := fun h => by
        obtain ⟨ws, e, d⟩ := RowsAt.same s1 h
        exact ⟨ws, OC.ExtN.tk e2 K _ _ e, dpAll_tk (OC.ExtN.tk e2) _ _ (noL_rows _) d⟩
      have e02 : LamX.ExtN H H2 := (OC.ExtN.same s1).trans e2
      exact ⟨.int p, rfl, .int n, rfl, .ref a, rfl, .ref b, rfl, .ref c, rfl, .ref e, rfl, a, b, _, _, room, rows, p, n, rfl, up hA, up hB, pf, ok, hF, p1, n1, by omega, by omega, fr, fun H3 s3 => ⟨rfl, rfl, fun H4 s4 => q H4 (e02.trans (OC.ExtN.same (s3.trans s4))) (OC.Tabs.same T2 (s3.trans s4))⟩⟩

end
end OC

set_option Elab.async false
set_option linter.all false
set_option maxRecDepth 100000
set_option maxHeartbeats 4000000
namespace OC
open PySem PySem.Spec PyProof.Rows L2 LamX
section
variable {P : Program} {w : World} {K : PySem.W.Frag} {mg : Str → Option Value} {base : Heap}
/-- a comprehension of drawn numbers -/
theorem lc_ints5 {J : It} {G : Hp → Prop} {m : Nat} {Pk : Nat → V → Prop} {d c e : Addr} {t p : Int} {σ : L2.St} {H : Hp} {Qd : Addr → Hp → Prop} {i : Nat} {sl : List Nat} {te : TE} (w : Walk J m G (fun k H x H' => H' = H ∧ Pk k x)) (D0 : Drw H d c e t) (hm : m ≤ 100) (hG : ∀ H', Kept d e H H' → G H') (hw : ∀ x : Option V, wipe ((wipe σ sl).set i x) sl = wipe σ sl)
    (hte : ∀ (k : Nat) (x : V) (t' : Int) (H' : Hp) (Q' : VK), k < m → Pk k x → Kept d e H H' → Drw H' d c e t' → t' ≤ t + k → (∀ H'' z t'', Kept d e H' H'' → Drw H'' d c e t'' → t'' ≤ t' + 1 → 0 ≤ z → z < p → Q' (.int z) H'') → te ((wipe σ sl).set i (some x)) H' Q')
    (hd : ∀ (D : Addr) (H' : Hp) (t' : Int) (r : List Int), Kept d e H H' → Drw H' d c e t' → t' ≤ t + m → H D = none → H' D = some (.lst (r.map V.int)) → RowsOk p m [r] → Qd D H') :
    LcGoal J (gName i) tYes te sl σ H Qd := by
  intro D nD
  have bD := D0.fresh nD
  refine lc_it w (fun k H' => Kept d e H H' ∧ ∃ (t' : Int) (r : List Int), Drw H' d c e t' ∧ t' ≤ t + k ∧ H' D = some (.lst (r.map V.int)) ∧ RowsOk p k [r]) ⟨Kept.of (same_upd nD), t, [], D0.same (same_upd nD), by omega, upd_same, rowsOk_one ⟨rfl, fun x hx => (nomatch hx)⟩⟩ (fun k H' _ hP => hG H' hP.1) (fun k x H1 H2 hk hP hY => ?_) (fun H' hP => ?_)
  · obtain ⟨rfl, pk⟩ := hY
    obtain ⟨k', t', r, D', ht', eB, okr⟩ := hP
    have okr' := okr r List.mem_cons_self
    refine ⟨hw _, hte k x t' _ _ hk pk k' D' ht' fun H3 z t3 k3 D3 ht3 z0 z1 => ?_⟩
    have eB3 := Drw.lst (c := c) k3 bD eB
    refine ⟨_, eB3, small1000 (by rw [List.length_map]; omega), (k'.trans k3).mut nD, t3, r ++ [z], D3.mut bD, by omega, ?_, rowsOk_one ⟨by rw [List.length_append, okr'.1]; rfl, fun y hy => ?_⟩⟩
    · rw [upd_same, List.map_append]
      rfl
    · rcases List.mem_append.mp hy with h | h
      · exact okr'.2 y h
      · rw [List.mem_singleton.mp h]
        exact ⟨z0, z1⟩
  · obtain ⟨k', t', r, D', ht', eB, okr⟩ := hP
    exact hd D H' t' r k' D' ht' nD eB okr
/-- a comprehension of drawn rows -/
theorem lc_rows6 {K : PySem.W.Frag} {d c e : Addr} {t p : Int} {n m : Nat} {σ : L2.St} {H : Hp} {Qd : Addr → Hp → Prop} {i : Nat} {sl : List Nat} {te : TE} (D0 : Drw H d c e t) (hm : m ≤ 100) (hw : ∀ x : Option V, wipe ((wipe σ sl).set i x) sl = wipe σ sl)
    (hte : ∀ (x : V) (k : Nat) (t' : Int) (H' : Hp) (Q' : VK), Kept d e H H' → Drw H' d c e t' → t' ≤ t + 20 * k → k < m → (∀ H'' t'' a r, Kept d e H' H'' → Drw H'' d c e t'' → t'' ≤ t' + 20 → H'' a = some (.tup (r.map V.int)) → RowsOk p n [r] → Q' (.ref a) H'') → te ((wipe σ sl).set i (some x)) H' Q')
    (hd : ∀ (D : Addr) (H' : Hp) (t' : Int) (ws : List V) (rs : List (List Int)), Kept d e H H' → Drw H' d c e t' → t' ≤ t + 20 * m → H D = none → H' D = some (.lst ws) → DpAll K H' ws (rs.map rowD) → rs.length = m → RowsOk p n rs → Qd D H') :
    LcGoal (Itr 0 m) (gName i) tYes te sl σ H Qd := by
  intro D nD
  have bD := D0.fresh nD
  refine lc_range (lo := 0) (n := m) (fun k H' => Kept d e H H' ∧ ∃ (t' : Int) (ws : List V) (rs : List (List Int)), Drw H' d c e t' ∧ t' ≤ t + 20 * k ∧ H' D = some (.lst ws) ∧ DpAll K H' ws (rs.map rowD) ∧ rs.length = k ∧ RowsOk p n rs) ⟨Kept.of (same_upd nD), t, [], [], D0.same (same_upd nD), by omega, upd_same, .nil, rfl, fun x hx => (nomatch hx)⟩ (fun k H' hk hW => ?_) (fun H' hW => ?_)
  · obtain ⟨k', t', ws, rs, D', ht', eB, dp, ln, ro⟩ := hW
    refine ⟨hw _, hte _ k t' H' _ k' D' ht' hk fun H1 t1 a r k1 D1 ht1 ea okr => ?_⟩
    have eB1 := Drw.lst (c := c) k1 bD eB
    have na : D ≠ a := fun z => by subst z; rw [eB1] at ea; cases ea
    have lw := dpAll_len dp
    rw [List.length_map] at lw
    have tk : Tk H1 (upd H1 D (.lst (ws ++ [.ref a]))) := (Tk.refl _).mut eB1
    refine ⟨ws, eB1, small1000 (by omega), (k'.trans k1).mut nD, t1, ws ++ [.ref a], rs ++ [r], D1.mut bD, by omega, upd_same, ?_, by rw [List.length_append, ln]; rfl, fun y hy => ?_⟩
    · rw [List.map_append]
      refine dpAll_append (dpAll_tk tk _ _ (noL_rows rs) (dpAll_tk (D'.tk k1) _ _ (noL_rows rs) dp)) (.cons (.tup (.inl (.inl ?_)) (dpAll_ints r)) .nil)
      rw [upd_ne (Ne.symm na)]
      exact ea
    · rcases List.mem_append.mp hy with h | h
      · exact ro y h
      · rw [List.mem_singleton.mp h]
        exact okr r List.mem_cons_self
  · obtain ⟨k', t', ws, rs, D', ht', eB, dp, ln, ro⟩ := hW
    exact hd D H' t' ws rs k' D' ht' nD eB dp ln ro
theorem drw_tabsL {T : List (Addr × Str)} {H H' : Hp} {d c e : Addr} {t : Int} (D : Drw H d c e t) (k : Kept d e H H') (h : Tabs T H) : Tabs T H' := by
  obtain ⟨hd, ⟨cells, rests, h1, h2, r⟩, x⟩ := D
  exact Tabs.kept h hd h2 k
theorem drw_extL {H H' : Hp} {d c e : Addr} {t : Int} (D : Drw H d c e t) (k : ExtN H H') : Drw H' d c e t := by
  obtain ⟨hd, ⟨cells, rests, h1, h2, r⟩, x1, x2, x3, x4⟩ := D
  exact ⟨ExtN.lst k hd, ⟨cells, rests, ExtN.lst k h1, ExtN.lst k h2, r⟩, x1, x2, x3, x4⟩
theorem RowsAt.ext {H H' : Hp} {a : Addr} {rs : List (List Int)} (k : ExtN H H') (h : RowsAt K H a rs) : RowsAt K H' a rs := by
  obtain ⟨ws, e, d⟩ := h
  exact ⟨ws, ExtN.tk k K _ _ e, dpAll_tk (ExtN.tk k) _ _ (noL_rows _) d⟩
def sp_law (K : PySem.W.Frag) (PT : Addr) : Sp := fun vs H Q _ => ∃ (a : Addr) (ns : List Int), vs = [.ref a] ∧ SqL K H a (ns.map V.int) ∧ ns.length ≤ 63 ∧ H PT = some (.tbl #[]) ∧ ∀ H', Q (.bl true) H'
theorem ok_law {cT PT : Addr} (Z : TopL K mg base cT PT) (hsys : HasSys base) {f : Addr} {fd : FuncData} (F : Fun K "law" "law" s_law f fd) : FnG P w K mg base CX0 14 f fd ["_law_script"] (sp_law K PT) := by
  have T := Z.t
  have O__law_draws := ok__law_draws (P := P) (w := w) (base := base) T
  have O__law_next := ok__law_next (P := P) (w := w) (base := base) T
  have O__law_worth := ok__law_worth (P := P) (w := w) (base := base) T
  have O__law_spread := ok__law_spread (P := P) (w := w) (base := base) T
  have O__law_right := ok__law_right (P := P) (w := w) Z
  refine funG F sc_law (fun vs H Q E h => ?_) (fun cdv A outer s H vs Q E hr hgd h => ?_)
  · obtain ⟨a, ns, rfl, _⟩ := h
    rfl
  · obtain ⟨a, ns, rfl, hS, hl, hP, q⟩ := h
    have T0 : Tabs (T1 PT lamQ) H := tabs_nil hP
    refine ⟨_, ((pss_cons (ps_set (i := 1) sc_law.nd rfl (.inr rfl) (pe_callO O__law_draws (hr.mono (by omega)) (by rfl) (pa_cons (pv 0) pa_nil)))
      (pss_cons (ps_for PassesOwn.never (by rfl) (pi_range1 (by rfl) T.b_range (pa_cons pe_int pa_nil)) (pg_name (i := 2) sc_law.nd rfl (.inl rfl))
        (pss_cons (ps_asg (pe_callO O__law_spread (hr.mono (by omega)) (by rfl) (pa_cons (pv 1) pa_nil)) (pg_tup (by rfl) (pgs_cons (pg_name (i := 3) sc_law.nd rfl (.inr rfl)) (pgs_cons (pg_name (i := 4) sc_law.nd rfl (.inl rfl)) (pgs_cons (pg_name (i := 5) sc_law.nd rfl (.inl rfl)) (pgs_cons (pg_name (i := 6) sc_law.nd rfl (.inr rfl)) pgs_nil))))))
        (pss_cons (ps_set (i := 8) sc_law.nd rfl (.inr rfl) (pe_callTy call_tuple_of (by rfl) T.b_tuple (by decide +kernel) (pa_cons (pe_lc (own := [("_law_k", 7)]) (g := gName 7) (by rfl) sc_law.nd (pi_range1 (by rfl) T.b_range (pa_cons (pv 4) pa_nil)) (blkOk_by (own := [("_law_k", 7)]) (N := N_law) (sc := defScope s_law) (by decide +kernel)) (fun _ _ _ _ _ => (pg_name (i := 7) sc_law.nd rfl (.inl rfl))) (fun _ _ _ _ _ => pts_nil) (fun _ _ _ _ _ => (pe_callO O__law_next (hr.mono (by omega)) (by rfl) (pa_cons (pv 1) (pa_cons (pv 3) pa_nil))))) pa_nil)))
        (pss_cons (ps_setLc (i := 10) (own := [("_law_k", 7)]) (g := gName 7) (by rfl) sc_law.nd rfl rfl (sw_true rfl rfl rfl (by decide +kernel)) (pi_range1 (by rfl) T.b_range (pa_cons pe_int pa_nil)) (blkOk_by (own := [("_law_k", 7)]) (N := N_law) (sc := defScope s_law) (by decide +kernel)) (fun _ _ _ _ _ => (pg_name (i := 7) sc_law.nd rfl (.inl rfl))) (fun _ _ _ _ _ => pts_nil) (fun _ _ _ _ _ => (pe_callTy (show CallR _ (.type "tuple") (rTupQ K) from call_tuple_of) (by rfl) T.b_tuple (by decide +kernel) (pa_cons (pe_lc (own := [("_law_row_here", 9)]) (g := gName 9) (by rfl) sc_law.nd (show PI _ _ _ (iTup K _) from pi_tup (pv 6)) (blkOk_by (own := [("_law_row_here", 9)]) (N := N_law) (sc := { kind := ScopeKind.function, names := [(".0", NameKind.local), ("_law_k", NameKind.local), ("tuple", NameKind.globalImplicit), ("_law_drawn", NameKind.cell), ("_law_p", NameKind.cell), ("_law_rows", NameKind.cell)], isGenerator := false, isCoroutine := false }) (by decide +kernel)) (fun _ _ _ _ _ => (pg_name (i := 9) sc_law.nd rfl (.inl rfl))) (fun _ _ _ _ _ => pts_nil) (fun _ _ _ _ _ => (pe_callO O__law_next (hr.mono (by omega)) (by rfl) (pa_cons (pv 1) (pa_cons (pv 3) pa_nil))))) pa_nil))))
        (pss_cons (ps_set (i := 10) sc_law.nd rfl (.inl rfl) (pe_op op_cat (pv 10) (pe_lst (pa_cons (pe_callTy call_tuple_of (by rfl) T.b_tuple (by decide +kernel) (pa_cons (pe_lc (own := [("_law_row_here", 9)]) (g := gName 9) (by rfl) sc_law.nd (pi_tup (pv 6)) (blkOk_by (own := [("_law_row_here", 9)]) (N := N_law) (sc := defScope s_law) (by decide +kernel)) (fun _ _ _ _ _ => (pg_name (i := 9) sc_law.nd rfl (.inl rfl))) (fun _ _ _ _ _ => pts_nil) (fun _ _ _ _ _ => (pe_callO O__law_worth (hr.mono (by omega)) (by rfl) (pa_cons (pv 3) (pa_cons (pv 9) (pa_cons (pv 8) pa_nil)))))) pa_nil)) (pa_cons (pe_op op_repZ (pe_tup (pa_cons pe_int pa_nil)) (pe_callB call_len_seq (by rfl) T.b_len (by decide +kernel) (pa_cons (pv 6) pa_nil))) (pa_cons (pe_op op_repZ (pe_tup (pa_cons (pe_op op_sub (pv 3) pe_int) pa_nil)) (pe_callB call_len_seq (by rfl) T.b_len (by decide +kernel) (pa_cons (pv 6) pa_nil))) pa_nil))))))
        (pss_cons (ps_set (i := 11) sc_law.nd rfl (.inl rfl) (pe_callB (call_reprS NB hsys hr hgd) (by rfl) T.b_repr (by decide +kernel) (pa_cons (pe_lst (pa_cons (pv 5) (pa_cons (pv 6) (pa_cons (pv 8) (pa_cons (pv 10) pa_nil))))) pa_nil)))
        (pss_cons (ps_for PassesOwn.never (by rfl) (pi_list (pv 10)) (pg_name (i := 12) sc_law.nd rfl (.inl rfl))
          (pss_one (ps_if (pt_not (pt_val (pe_callO O__law_right (hr.mono (by omega)) (by rfl) (pa_cons (pv 3) (pa_cons (pv 4) (pa_cons (pv 5) (pa_cons (pv 6) (pa_cons (pv 8) (pa_cons (pv 12) pa_nil)))))))))
            (pss_one (ps_ret pe_bl))
            pss_nil)))
        (pss_one (ps_if (PW.pt (pw_or (pt_not (pt_val (pe_callO O__law_right (hr.mono (by omega)) (by rfl) (pa_cons (pv 3) (pa_cons (pv 4) (pa_cons (pv 5) (pa_cons (pe_tup pa_nil) (pa_cons (pv 8) (pa_cons (pe_tup pa_nil) pa_nil))))))))) (pw_or1 (pt_cmpR op_ne (pe_callB (call_reprS NB hsys hr hgd) (by rfl) T.b_repr (by decide +kernel) (pa_cons (pe_lst (pa_cons (pv 5) (pa_cons (pv 6) (pa_cons (pv 8) (pa_cons (pv 10) pa_nil))))) pa_nil)) (pv 11) (nomark _)))))
          (pss_one (ps_ret pe_bl))
          pss_nil)))))))))
      (pss_one (ps_ret pe_bl))))), ?_⟩
    refine ⟨.ref a, rfl, a, ns, rfl, hS, hl, fun H1 d c e s1 D1 => ?_⟩
    refine ⟨4, rfl, by decide, by decide, for_range (lo := 0) (n := 4) (fun i σ H' => ∃ t' : Int, Drw H' d c e t' ∧ t' ≤ 1000 * i ∧ Tabs (T1 PT lamQ) H' ∧ ∃ y2 y3 y4 y5 y6 y7 y8 y9 y10 y11 y12 : Option V, σ = [some (.ref a), some (.ref d), y2, y3, y4, y5, y6, y7, y8, y9, y10, y11, y12]) ⟨0, D1, by decide, OC.Tabs.same T0 s1, none, none, none, none, none, none, none, none, none, none, none, rfl⟩ (fun i σ H2 hi hW => ?_) (fun σ H2 hW => ?_)⟩
    · obtain ⟨t2, D2, ht2, T2, y2, y3, y4, y5, y6, y7, y8, y9, y10, y11, y12, rfl⟩ := hW
      refine ⟨.ref d, rfl, d, c, e, t2, rfl, D2, by omega, fun H3 a3 l1 l2 p n room rows t3 k3 D3 ht3 h3 hr3 hw3 pf okw l04 hF p1 n1 n8 => ?_⟩
      have p2 := hF.1
      have lroom := PFR.len hF pf
      have T3 := drw_tabsL D2 k3 T2
      refine ⟨a3, _, rfl, h3, rfl, _, _, rfl, _, _, rfl, _, _, rfl, _, _, rfl, rfl, ?_⟩
      -- the world
      refine ⟨.int n, rfl, (n : Nat), rfl, by omega, by omega, lc_ints5 (p := p) (m := n) (walk_range (lo := 0) (n := n)) D3 (by omega) (fun _ _ => trivial) (fun _ => rfl) (fun k x t' H' Q' hk _ _ D' ht' hQ => ?_) (fun B H4 t4 wd k4 D4 ht4 nB eB okwd => ?_)⟩
      · exact ⟨.ref d, rfl, .int p, rfl, d, c, e, t', p, rfl, D', by omega, by omega, by omega, fun H'' z k'' D'' z0 z1 => hQ H'' z _ k'' D'' (by omega) z0 z1⟩
      refine ⟨B, _, rfl, .inl ⟨.inl (.inl eB), fun o5 no5 => ?_⟩⟩
      generalize h5 : upd H4 o5 _ = H5
      obtain ⟨s5, e5⟩ := new_of h5 no5
      have D5 := D4.same s5
      have T5 := OC.Tabs.same (drw_tabsL D3 k4 T3) s5
      have hr5 := RowsAt.same s5 (D3.rows k4 hr3)
      have hw5 := RowsAt.same s5 (D3.rows k4 hw3)
      have hwd5 : SqT K H5 o5 (wd.map V.int) := .inl (.inl e5)
      obtain ⟨wb, eb, db⟩ := id hw5
      have lb := rows_len db
      -- two drawn ones
      refine ⟨2, rfl, by decide, by decide, lc_rows6 (K := K) (p := p) (n := rows.length) (m := 2) D5 (by decide) (fun _ => rfl) (fun x k t' H' Q' k' D' ht' hk hQ => ?_) (fun L6 H6 t6 ws6 rs6 k6 D6 ht6 nL6 eL6 dL6 lrs6 okrs6 => ?_)⟩
      · have eb' := Drw.tup D5 k' eb
        refine ⟨.ref l2, rfl, l2, rfl, ⟨_, eb'⟩, lc_ints5 (G := fun H => SqT K H l2 wb) (p := p) (m := wb.length) (walk_tup (K := K) (a := l2) (xs := wb)) D' (by omega) (fun H'' k'' => Drw.tup D' k'' eb') (fun _ => rfl) (fun k2 x2 t'' H'' Q'' hk2 _ _ D'' ht'' hQ2 => ?_) (fun B2 H7 t7 r7 k7 D7 ht7 nB2 eB2 ok7 => ?_)⟩
        · exact ⟨.ref d, rfl, .int p, rfl, d, c, e, t'', p, rfl, D'', by omega, by omega, by omega, fun H3 z k3 D3 z0 z1 => hQ2 H3 z _ k3 D3 (by omega) z0 z1⟩
        refine ⟨B2, _, rfl, .inl ⟨.inl (.inl eB2), fun o8 no8 => ?_⟩⟩
        generalize h8 : upd H7 o8 _ = H8
        obtain ⟨s8, e8⟩ := new_of h8 no8
        exact hQ H8 t7 o8 r7 (k7.trans (Kept.of s8)) (D7.same s8) (by omega) e8 (by rw [← lb]; exact ok7)
      have ht6 : t6 ≤ t4 + 40 := ht6
      have T6 := drw_tabsL D5 k6 T5
      have hr6 := D5.rows k6 hr5
      have hw6 := D5.rows k6 hw5
      have hwd6 := Drw.tup D5 k6 hwd5
      have eb6 := Drw.tup D5 k6 eb
      have db6 := dpAll_tk (Drw.tk D5 k6) _ _ (noL_rows _) db
      have lws6 := dpAll_len dL6
      rw [List.length_map] at lws6
      refine ⟨.ref L6, rfl, .ref l2, rfl, l2, rfl, ⟨_, eb6⟩, lc_valR (K := K) (fun d => V.int (worthR p (intsOf d) wd)) (walk_tup (K := K) (a := l2) (xs := wb)) (fun H' s => Same.tup s eb6) (rep_rows db6) (by omega) (fun _ => rfl) (fun v dd H' Q' md rv sm hQ => ?_) (fun D7 H7 s7 nD7 eD7 => ?_)⟩
      · obtain ⟨x, mx, rfl⟩ := List.mem_map.mp md
        obtain ⟨o', rfl, ho⟩ := rep_row rv
        have okx := okw x mx
        simp only [ints_row] at hQ
        exact ⟨.int p, rfl, .ref o', rfl, .ref o5, rfl, o', o5, x, wd, p, rfl, ho, Same.tup sm hwd6, by omega, by omega, by omega, okx.2, hQ⟩
      rw [worths_eq] at eD7
      refine ⟨D7, _, rfl, .inl ⟨.inl (.inl eD7), fun p8 np8 => ?_⟩⟩
      generalize h8 : upd H7 p8 _ = H8
      obtain ⟨s8, e8⟩ := new_of h8 np8
      have s68 := s7.trans s8
      refine ⟨sz1000 (by decide : (1 : Nat) ≤ 1000), fun p9 np9 => ?_⟩
      generalize h9 : upd H8 p9 _ = H9
      obtain ⟨s9, e9⟩ := new_of h9 np9
      have s69 := s68.trans s9
      refine ⟨.ref l2, rfl, l2, _, rfl, .inr (Same.tup s69 eb6), p9, (wb.length : Nat), _, rfl, rfl, .inl (.inl e9), (fun z => by cases z), by omega, by omega, by decide, fun p10 H10 s10 h10 => ?_⟩
      have s610 := s69.trans s10
      refine ⟨.int p, rfl, p, 1, rfl, rfl, sz1000 (by rw [List.length_singleton]; decide), fun p11 np11 => ?_⟩
      generalize h11 : upd H10 p11 _ = H11
      obtain ⟨s11, e11⟩ := new_of h11 np11
      have s611 := s610.trans s11
      refine ⟨.ref l2, rfl, l2, _, rfl, .inr (Same.tup s611 eb6), p11, (wb.length : Nat), _, rfl, rfl, .inl (.inl e11), (fun z => by cases z), by omega, by omega, Nat.le_of_ble_eq_true rfl, fun p12 H12 s12 h12 => ?_⟩
      have s612 := s611.trans s12
      refine ⟨sz1000 (by decide : (3 : Nat) ≤ 1000), fun L13 nL13 => ?_⟩
      generalize h13 : upd H12 L13 _ = H13
      obtain ⟨s13, e13⟩ := new_of h13 nL13
      have s613 := s612.trans s13
      refine ⟨L6, L13, _, _, rfl, rfl, s613 _ _ eL6, e13, sz1000 (by simp only [List.length_cons, List.length_nil]; omega), fun N nN => ?_⟩
      generalize h14 : upd H13 N _ = H14
      obtain ⟨s14, eN⟩ := new_of h14 nN
      have s614 := s613.trans s14
      have D14 := D6.same s614
      have T14 := OC.Tabs.same T6 s614
      -- the five
      have ok1 : RowsOk p rows.length [rows.map fun r => worthR p r wd] := rowsOk_one ⟨by rw [List.length_map], fun x hx => by
        obtain ⟨r, _, rfl⟩ := List.mem_map.mp hx
        exact worth_bd (by omega)⟩
      have ok2 : RowsOk p rows.length [List.replicate rows.length 0] := rowsOk_one ⟨List.length_replicate, fun x hx => by rw [List.eq_of_mem_replicate hx]; omega⟩
      have ok3 : RowsOk p rows.length [List.replicate rows.length (p - 1)] := rowsOk_one ⟨List.length_replicate, fun x hx => by rw [List.eq_of_mem_replicate hx]; omega⟩
      have d1 : DpAll K H14 [V.ref p8] ([rows.map fun r => worthR p r wd].map rowD) := .cons (row_dp (.inl (.inl ((s9.trans (s10.trans (s11.trans (s12.trans (s13.trans s14))))) _ _ e8)))) .nil
      have d2 : DpAll K H14 [V.ref p10] ([List.replicate rows.length 0].map rowD) := .cons (row_dp (by
        have := Same.tup (s11.trans (s12.trans (s13.trans s14))) h10
        rw [Int.toNat_natCast, rep_flat, lb] at this
        exact this)) .nil
      have d3 : DpAll K H14 [V.ref p12] ([List.replicate rows.length (p - 1)].map rowD) := .cons (row_dp (by
        have := Same.tup (s13.trans s14) h12
        rw [Int.toNat_natCast] at this
        rw [lb] at this
        rw [← rep_flat]
        exact this)) .nil
      have dall := dpAll_append (dpAll_same s614 _ _ dL6) (dpAll_append d1 (dpAll_append d2 d3))
      rw [← List.map_append, ← List.map_append, ← List.map_append] at dall
      have okall := rowsOk_app okrs6 (rowsOk_app ok1 (rowsOk_app ok2 ok3))
      have lall : (rs6 ++ ([rows.map fun r => worthR p r wd] ++ ([List.replicate rows.length 0] ++ [List.replicate rows.length (p - 1)]))).length = 5 := by
        simp only [List.length_append, List.length_cons, List.length_nil, lrs6]
      generalize rs6 ++ ([rows.map fun r => worthR p r wd] ++ ([List.replicate rows.length 0] ++ [List.replicate rows.length (p - 1)])) = RS at dall okall lall
      rw [show ws6 ++ [V.ref p8, V.ref p10, V.ref p12] = ws6 ++ ([V.ref p8] ++ ([V.ref p10] ++ [V.ref p12])) from rfl] at eN
      generalize ws6 ++ ([V.ref p8] ++ ([V.ref p10] ++ [V.ref p12])) = WS at dall eN
      have lWS := dpAll_len dall
      rw [List.length_map] at lWS
      have hr14 := RowsAt.same s614 hr6
      have hw14 := RowsAt.same s614 hw6
      have hwd14 := Same.tup s614 hwd6
      have okwdd := okwd wd List.mem_cons_self
      -- kept
      have fit : FitS (.list [.tuple (room.map rowD), .tuple (rows.map rowD), rowD wd, .list (RS.map rowD)]) := by
        refine (fitz_list (B := 400000) (k := 6) (n := 4) (Nat.le_refl _) fun d m => ?_).fit (by decide) (by decide)
        simp only [List.mem_cons, List.not_mem_nil, or_false] at m
        rcases m with rfl | rfl | rfl | rfl
        · exact (fitz_rows p1 n8 pf.1 (by omega)).mono (by decide) (by decide)
        · exact (fitz_rows p1 n8 okw (by omega)).mono (by decide) (by decide)
        · exact (okE_ints (fun x hx => by have := okwdd.2 x hx; omega) (by rw [okwdd.1]; omega)).f.mono (by decide) (by decide)
        · refine (fitz_list (B := 600) (k := 2) (n := 5) (by rw [List.length_map]; omega) fun d hd => ?_).mono (by decide) (by decide)
          obtain ⟨r, mr, rfl⟩ := List.mem_map.mp hd
          have := okall r mr
          exact (okE_ints (fun x hx => by have := this.2 x hx; omega) (by rw [this.1]; omega)).f
      have rep : ∀ (H' : Hp) (L : Addr), Tk H14 H' → H' N = some (.lst WS) → H' L = some (.lst [.ref l1, .ref l2, .ref o5, .ref N]) → RowsAt K H' l1 room → RowsAt K H' l2 rows → Rep K H' NB (.ref L) (.list [.tuple (room.map rowD), .tuple (rows.map rowD), rowD wd, .list (RS.map rowD)]) := fun H' L tk eN' e h1 h2 =>
        .lst e (fun z => z) (.cons (RowsAt.rep h1) (.cons (RowsAt.rep h2) (.cons (row_rep (tk K _ _ hwd14)) (.cons (.lst eN' (fun z => z) (rep_rows (dpAll_tk tk _ _ (noL_rows _) dall))) .nil))))
      refine ⟨.ref l1, rfl, .ref l2, rfl, .ref o5, rfl, .ref N, rfl, sz1000 (by decide : (4 : Nat) ≤ 1000), fun L15 nL15 => ?_⟩
      generalize h15 : upd H14 L15 _ = H15
      obtain ⟨s15, e15⟩ := new_of h15 nL15
      refine ⟨.ref L15, _, rfl, rep H15 L15 (fun K a xs h => Same.tup s15 h) (s15 _ _ eN) e15 (RowsAt.same s15 hr14) (RowsAt.same s15 hw14), fit, ?_⟩
      generalize hsh : (PyData.shown (.list [.tuple (room.map rowD), .tuple (rows.map rowD), rowD wd, .list (RS.map rowD)])) = shn
      have T15 := OC.Tabs.same T14 s15
      have D15 := D14.same s15
      have eN15 := s15 _ _ eN
      refine ⟨.ref N, rfl, N, rfl, ⟨_, .inl (.inl eN15)⟩, for_it (walk_list (K := K) (a := N) (xs := WS)) (fun j σ H' => ExtN H15 H' ∧ Tabs (T1 PT lamQ) H' ∧ ∃ (z9 z12 : Option V), σ = [some (.ref a), some (.ref d), some (.int (0 + (i : Int))), some (.int p), some (.int (n : Int)), some (.ref l1), some (.ref l2), y7, some (.ref o5), z9, some (.ref N), some (.str shn), z12]) ⟨ExtN.refl _, T15, _, y12, rfl⟩ (fun j σ H' _ hW => .inl (.inl (ExtN.lst hW.1 eN15))) (fun j v σ H16 H17 hj hW hY => ?_) (fun σ H16 hW => ?_)⟩
      · obtain ⟨rfl, hv⟩ := hY
        obtain ⟨k16, T16, z9, z12, rfl⟩ := hW
        obtain ⟨b, R, rfl, gR, mR, hR⟩ := dpAll_row (dpAll_same s15 _ _ dall) hv
        have okR := okall R mR
        refine ⟨.int p, rfl, .int n, rfl, .ref l1, rfl, .ref l2, rfl, .ref o5, rfl, .ref b, rfl, l1, l2, o5, b, room, rows, wd, R, p, n, rfl, RowsAt.ext k16 (RowsAt.same s15 hr14), RowsAt.ext k16 (RowsAt.same s15 hw14), ExtN.tk k16 K _ _ (Same.tup s15 hwd14), ExtN.tk k16 K _ _ hR, pf, okw, okwd, okR.1, okR.2, hF, p1, n1, n8, by omega, T16, fun H17 k17 T17 => ⟨_, rfl, ?_⟩⟩
        exact iteF ⟨k16.trans k17, T17, _, _, rfl⟩
      · obtain ⟨k16, T16, z9, z12, rfl⟩ := hW
        have D16 := drw_extL D15 k16
        have hr16 := RowsAt.ext k16 (RowsAt.same s15 hr14)
        have hw16 := RowsAt.ext k16 (RowsAt.same s15 hw14)
        have hwd16 := ExtN.tk k16 K _ _ (Same.tup s15 hwd14)
        have eN16 := ExtN.lst k16 eN15
        refine ⟨.int p, rfl, .int n, rfl, .ref l1, rfl, sz1000 (by decide : (0 : Nat) ≤ 1000), fun u1 nu1 => ?_⟩
        generalize h17 : upd H16 u1 _ = H17
        obtain ⟨s17, e17⟩ := new_of h17 nu1
        refine ⟨.ref o5, rfl, sz1000 (by decide : (0 : Nat) ≤ 1000), fun u2 nu2 => ?_⟩
        generalize h18 : upd H17 u2 _ = H18
        obtain ⟨s18, e18⟩ := new_of h18 nu2
        have s1618 := s17.trans s18
        refine ⟨l1, u1, o5, u2, room, [], wd, [], p, n, rfl, RowsAt.same s1618 hr16, ⟨[], .inl (.inl (s18 _ _ e17)), .nil⟩, Same.tup s1618 hwd16, .inl (.inl e18), pf, (fun x hx => nomatch hx), okwd, rfl, (fun x hx => nomatch hx), hF, p1, n1, n8, Nat.zero_le _, OC.Tabs.same T16 s1618, fun H19 k19 T19 => ⟨_, rfl, ?_⟩⟩
        refine iteF ?_
        have hr19 := RowsAt.ext k19 (RowsAt.same s1618 hr16)
        have hw19 := RowsAt.ext k19 (RowsAt.same s1618 hw16)
        have D19 := drw_extL (D16.same s1618) k19
        refine ⟨.ref l1, rfl, .ref l2, rfl, .ref o5, rfl, .ref N, rfl, sz1000 (by decide : (4 : Nat) ≤ 1000), fun L20 nL20 => ?_⟩
        generalize h20 : upd H19 L20 _ = H20
        obtain ⟨s20, e20⟩ := new_of h20 nL20
        refine ⟨.ref L20, _, rfl, rep H20 L20 (fun K a xs h => Same.tup s20 (ExtN.tk k19 K _ _ (Same.tup s1618 (ExtN.tk k16 K _ _ (Same.tup s15 h))))) (s20 _ _ (ExtN.lst k19 (s1618 _ _ eN16))) e20 (RowsAt.same s20 hr19) (RowsAt.same s20 hw19), fit, ?_⟩
        rw [hsh]
        refine ⟨.str shn, rfl, rfl, _, rfl, ?_⟩
        rw [show (!decide (V.str shn = V.str shn)) = false by simp]
        exact iteF ⟨t6, D19.same s20, by omega, OC.Tabs.same T19 s20, _, _, _, _, _, _, _, _, _, _, _, rfl⟩
    · exact q H2

end
end OC

set_option Elab.async false
set_option linter.all false
set_option maxRecDepth 100000
namespace OC
open PySem PySem.Spec PyProof.Rows L2
/-! ### the end -/
set_option maxHeartbeats 8000000 in
theorem all_mk {l : PySem.W.OpenLaw} {w : World} {K : PySem.W.Frag} {h : Heap} {mg : Str → Option Value} {fa : Addr} (X : K.In h) (G : h.Ns mainGlobals mg) (hfa : mg "law" = some (.ref fa))
    {f0 : Addr} {od0 an0 : Option Addr} {sl0 : Array (Option Value)} {oc0 kV0 dc0 pm0 cd0 ct0 : Value}
    (a0 : PySem.W.nsIn K mainGlobals "contrary" = some (some (.ref f0))) (l0 : K.lookup f0 = some ⟨oc0, od0, .func (PySem.W.fnOf "contrary" "contrary" (defArgs s_contrary) (defBody s_contrary) (defScope s_contrary) .none kV0 dc0 pm0 an0 cd0 ct0), sl0⟩) (c0 : PySem.W.codeIn K cd0 "contrary" = true) (k0 : PySem.W.keepIn K (.ref f0) = true)
    {f1 : Addr} {od1 an1 : Option Addr} {sl1 : Array (Option Value)} {oc1 kV1 dc1 pm1 cd1 ct1 : Value}
    (a1 : PySem.W.nsIn K mainGlobals "added" = some (some (.ref f1))) (l1 : K.lookup f1 = some ⟨oc1, od1, .func (PySem.W.fnOf "added" "added" (defArgs s_added) (defBody s_added) (defScope s_added) .none kV1 dc1 pm1 an1 cd1 ct1), sl1⟩) (c1 : PySem.W.codeIn K cd1 "added" = true) (k1 : PySem.W.keepIn K (.ref f1) = true)
    {f2 : Addr} {od2 an2 : Option Addr} {sl2 : Array (Option Value)} {oc2 kV2 dc2 pm2 cd2 ct2 : Value}
    (a2 : PySem.W.nsIn K mainGlobals "times" = some (some (.ref f2))) (l2 : K.lookup f2 = some ⟨oc2, od2, .func (PySem.W.fnOf "times" "times" (defArgs s_times) (defBody s_times) (defScope s_times) .none kV2 dc2 pm2 an2 cd2 ct2), sl2⟩) (c2 : PySem.W.codeIn K cd2 "times" = true) (k2 : PySem.W.keepIn K (.ref f2) = true)
    {f3 : Addr} {od3 an3 : Option Addr} {sl3 : Array (Option Value)} {oc3 kV3 dc3 pm3 cd3 ct3 : Value}
    (a3 : PySem.W.nsIn K mainGlobals "worth" = some (some (.ref f3))) (l3 : K.lookup f3 = some ⟨oc3, od3, .func (PySem.W.fnOf "worth" "worth" (defArgs s_worth) (defBody s_worth) (defScope s_worth) .none kV3 dc3 pm3 an3 cd3 ct3), sl3⟩) (c3 : PySem.W.codeIn K cd3 "worth" = true) (k3 : PySem.W.keepIn K (.ref f3) = true)
    {f4 : Addr} {od4 an4 : Option Addr} {sl4 : Array (Option Value)} {oc4 kV4 dc4 pm4 cd4 ct4 : Value}
    (a4 : PySem.W.nsIn K mainGlobals "first_place" = some (some (.ref f4))) (l4 : K.lookup f4 = some ⟨oc4, od4, .func (PySem.W.fnOf "first_place" "first_place" (defArgs s_first_place) (defBody s_first_place) (defScope s_first_place) .none kV4 dc4 pm4 an4 cd4 ct4), sl4⟩) (c4 : PySem.W.codeIn K cd4 "first_place" = true) (k4 : PySem.W.keepIn K (.ref f4) = true)
    {f5 : Addr} {od5 an5 : Option Addr} {sl5 : Array (Option Value)} {oc5 kV5 dc5 pm5 cd5 ct5 : Value}
    (a5 : PySem.W.nsIn K mainGlobals "cleared" = some (some (.ref f5))) (l5 : K.lookup f5 = some ⟨oc5, od5, .func (PySem.W.fnOf "cleared" "cleared" (defArgs s_cleared) (defBody s_cleared) (defScope s_cleared) .none kV5 dc5 pm5 an5 cd5 ct5), sl5⟩) (c5 : PySem.W.codeIn K cd5 "cleared" = true) (k5 : PySem.W.keepIn K (.ref f5) = true)
    {f6 : Addr} {od6 an6 : Option Addr} {sl6 : Array (Option Value)} {oc6 kV6 dc6 pm6 cd6 ct6 : Value}
    (a6 : PySem.W.nsIn K mainGlobals "left_of" = some (some (.ref f6))) (l6 : K.lookup f6 = some ⟨oc6, od6, .func (PySem.W.fnOf "left_of" "left_of" (defArgs s_left_of) (defBody s_left_of) (defScope s_left_of) .none kV6 dc6 pm6 an6 cd6 ct6), sl6⟩) (c6 : PySem.W.codeIn K cd6 "left_of" = true) (k6 : PySem.W.keepIn K (.ref f6) = true)
    {f7 : Addr} {od7 an7 : Option Addr} {sl7 : Array (Option Value)} {oc7 kV7 dc7 pm7 cd7 ct7 : Value}
    (a7 : PySem.W.nsIn K mainGlobals "widened" = some (some (.ref f7))) (l7 : K.lookup f7 = some ⟨oc7, od7, .func (PySem.W.fnOf "widened" "widened" (defArgs s_widened) (defBody s_widened) (defScope s_widened) .none kV7 dc7 pm7 an7 cd7 ct7), sl7⟩) (c7 : PySem.W.codeIn K cd7 "widened" = true) (k7 : PySem.W.keepIn K (.ref f7) = true)
    {f8 : Addr} {od8 an8 : Option Addr} {sl8 : Array (Option Value)} {oc8 kV8 dc8 pm8 cd8 ct8 : Value}
    (a8 : PySem.W.nsIn K mainGlobals "room_of" = some (some (.ref f8))) (l8 : K.lookup f8 = some ⟨oc8, od8, .func (PySem.W.fnOf "room_of" "room_of" (defArgs s_room_of) (defBody s_room_of) (defScope s_room_of) .none kV8 dc8 pm8 an8 cd8 ct8), sl8⟩) (c8 : PySem.W.codeIn K cd8 "room_of" = true) (k8 : PySem.W.keepIn K (.ref f8) = true)
    {f9 : Addr} {od9 an9 : Option Addr} {sl9 : Array (Option Value)} {oc9 kV9 dc9 pm9 cd9 ct9 : Value}
    (a9 : PySem.W.nsIn K mainGlobals "across" = some (some (.ref f9))) (l9 : K.lookup f9 = some ⟨oc9, od9, .func (PySem.W.fnOf "across" "across" (defArgs s_across) (defBody s_across) (defScope s_across) .none kV9 dc9 pm9 an9 cd9 ct9), sl9⟩) (c9 : PySem.W.codeIn K cd9 "across" = true) (k9 : PySem.W.keepIn K (.ref f9) = true)
    {f10 : Addr} {od10 an10 : Option Addr} {sl10 : Array (Option Value)} {oc10 kV10 dc10 pm10 cd10 ct10 : Value}
    (a10 : PySem.W.nsIn K mainGlobals "across_at" = some (some (.ref f10))) (l10 : K.lookup f10 = some ⟨oc10, od10, .func (PySem.W.fnOf "across_at" "across_at" (defArgs s_across_at) (defBody s_across_at) (defScope s_across_at) .none kV10 dc10 pm10 an10 cd10 ct10), sl10⟩) (c10 : PySem.W.codeIn K cd10 "across_at" = true) (k10 : PySem.W.keepIn K (.ref f10) = true)
    {f11 : Addr} {od11 an11 : Option Addr} {sl11 : Array (Option Value)} {oc11 kV11 dc11 pm11 cd11 ct11 : Value}
    (a11 : PySem.W.nsIn K mainGlobals "are_free" = some (some (.ref f11))) (l11 : K.lookup f11 = some ⟨oc11, od11, .func (PySem.W.fnOf "are_free" "are_free" (defArgs s_are_free) (defBody s_are_free) (defScope s_are_free) .none kV11 dc11 pm11 an11 cd11 ct11), sl11⟩) (c11 : PySem.W.codeIn K cd11 "are_free" = true) (k11 : PySem.W.keepIn K (.ref f11) = true)
    {f12 : Addr} {od12 an12 : Option Addr} {sl12 : Array (Option Value)} {oc12 kV12 dc12 pm12 cd12 ct12 : Value}
    (a12 : PySem.W.nsIn K mainGlobals "turns" = some (some (.ref f12))) (l12 : K.lookup f12 = some ⟨oc12, od12, .func (PySem.W.fnOf "turns" "turns" (defArgs s_turns) (defBody s_turns) (defScope s_turns) .none kV12 dc12 pm12 an12 cd12 ct12), sl12⟩) (c12 : PySem.W.codeIn K cd12 "turns" = true) (k12 : PySem.W.keepIn K (.ref f12) = true)
    {f13 : Addr} {od13 an13 : Option Addr} {sl13 : Array (Option Value)} {oc13 kV13 dc13 pm13 cd13 ct13 : Value}
    (a13 : PySem.W.nsIn K mainGlobals "turn_of" = some (some (.ref f13))) (l13 : K.lookup f13 = some ⟨oc13, od13, .func (PySem.W.fnOf "turn_of" "turn_of" (defArgs s_turn_of) (defBody s_turn_of) (defScope s_turn_of) .none kV13 dc13 pm13 an13 cd13 ct13), sl13⟩) (c13 : PySem.W.codeIn K cd13 "turn_of" = true) (k13 : PySem.W.keepIn K (.ref f13) = true)
    {f14 : Addr} {od14 an14 : Option Addr} {sl14 : Array (Option Value)} {oc14 kV14 dc14 pm14 cd14 ct14 : Value}
    (a14 : PySem.W.nsIn K mainGlobals "with_rests" = some (some (.ref f14))) (l14 : K.lookup f14 = some ⟨oc14, od14, .func (PySem.W.fnOf "with_rests" "with_rests" (defArgs s_with_rests) (defBody s_with_rests) (defScope s_with_rests) .none kV14 dc14 pm14 an14 cd14 ct14), sl14⟩) (c14 : PySem.W.codeIn K cd14 "with_rests" = true) (k14 : PySem.W.keepIn K (.ref f14) = true)
    {f15 : Addr} {od15 an15 : Option Addr} {sl15 : Array (Option Value)} {oc15 kV15 dc15 pm15 cd15 ct15 : Value}
    (a15 : PySem.W.nsIn K mainGlobals "_law_draws" = some (some (.ref f15))) (l15 : K.lookup f15 = some ⟨oc15, od15, .func (PySem.W.fnOf "_law_draws" "_law_draws" (defArgs s__law_draws) (defBody s__law_draws) (defScope s__law_draws) .none kV15 dc15 pm15 an15 cd15 ct15), sl15⟩) (c15 : PySem.W.codeIn K cd15 "_law_draws" = true) (k15 : PySem.W.keepIn K (.ref f15) = true)
    {f16 : Addr} {od16 an16 : Option Addr} {sl16 : Array (Option Value)} {oc16 kV16 dc16 pm16 cd16 ct16 : Value}
    (a16 : PySem.W.nsIn K mainGlobals "_law_next" = some (some (.ref f16))) (l16 : K.lookup f16 = some ⟨oc16, od16, .func (PySem.W.fnOf "_law_next" "_law_next" (defArgs s__law_next) (defBody s__law_next) (defScope s__law_next) .none kV16 dc16 pm16 an16 cd16 ct16), sl16⟩) (c16 : PySem.W.codeIn K cd16 "_law_next" = true) (k16 : PySem.W.keepIn K (.ref f16) = true)
    {f17 : Addr} {od17 an17 : Option Addr} {sl17 : Array (Option Value)} {oc17 kV17 dc17 pm17 cd17 ct17 : Value}
    (a17 : PySem.W.nsIn K mainGlobals "_law_row" = some (some (.ref f17))) (l17 : K.lookup f17 = some ⟨oc17, od17, .func (PySem.W.fnOf "_law_row" "_law_row" (defArgs s__law_row) (defBody s__law_row) (defScope s__law_row) .none kV17 dc17 pm17 an17 cd17 ct17), sl17⟩) (c17 : PySem.W.codeIn K cd17 "_law_row" = true) (k17 : PySem.W.keepIn K (.ref f17) = true)
    {f18 : Addr} {od18 an18 : Option Addr} {sl18 : Array (Option Value)} {oc18 kV18 dc18 pm18 cd18 ct18 : Value}
    (a18 : PySem.W.nsIn K mainGlobals "_law_plus" = some (some (.ref f18))) (l18 : K.lookup f18 = some ⟨oc18, od18, .func (PySem.W.fnOf "_law_plus" "_law_plus" (defArgs s__law_plus) (defBody s__law_plus) (defScope s__law_plus) .none kV18 dc18 pm18 an18 cd18 ct18), sl18⟩) (c18 : PySem.W.codeIn K cd18 "_law_plus" = true) (k18 : PySem.W.keepIn K (.ref f18) = true)
    {f19 : Addr} {od19 an19 : Option Addr} {sl19 : Array (Option Value)} {oc19 kV19 dc19 pm19 cd19 ct19 : Value}
    (a19 : PySem.W.nsIn K mainGlobals "_law_less" = some (some (.ref f19))) (l19 : K.lookup f19 = some ⟨oc19, od19, .func (PySem.W.fnOf "_law_less" "_law_less" (defArgs s__law_less) (defBody s__law_less) (defScope s__law_less) .none kV19 dc19 pm19 an19 cd19 ct19), sl19⟩) (c19 : PySem.W.codeIn K cd19 "_law_less" = true) (k19 : PySem.W.keepIn K (.ref f19) = true)
    {f20 : Addr} {od20 an20 : Option Addr} {sl20 : Array (Option Value)} {oc20 kV20 dc20 pm20 cd20 ct20 : Value}
    (a20 : PySem.W.nsIn K mainGlobals "_law_steps" = some (some (.ref f20))) (l20 : K.lookup f20 = some ⟨oc20, od20, .func (PySem.W.fnOf "_law_steps" "_law_steps" (defArgs s__law_steps) (defBody s__law_steps) (defScope s__law_steps) .none kV20 dc20 pm20 an20 cd20 ct20), sl20⟩) (c20 : PySem.W.codeIn K cd20 "_law_steps" = true) (k20 : PySem.W.keepIn K (.ref f20) = true)
    {f21 : Addr} {od21 an21 : Option Addr} {sl21 : Array (Option Value)} {oc21 kV21 dc21 pm21 cd21 ct21 : Value}
    (a21 : PySem.W.nsIn K mainGlobals "_law_size" = some (some (.ref f21))) (l21 : K.lookup f21 = some ⟨oc21, od21, .func (PySem.W.fnOf "_law_size" "_law_size" (defArgs s__law_size) (defBody s__law_size) (defScope s__law_size) .none kV21 dc21 pm21 an21 cd21 ct21), sl21⟩) (c21 : PySem.W.codeIn K cd21 "_law_size" = true) (k21 : PySem.W.keepIn K (.ref f21) = true)
    {f22 : Addr} {od22 an22 : Option Addr} {sl22 : Array (Option Value)} {oc22 kV22 dc22 pm22 cd22 ct22 : Value}
    (a22 : PySem.W.nsIn K mainGlobals "_law_free" = some (some (.ref f22))) (l22 : K.lookup f22 = some ⟨oc22, od22, .func (PySem.W.fnOf "_law_free" "_law_free" (defArgs s__law_free) (defBody s__law_free) (defScope s__law_free) .none kV22 dc22 pm22 an22 cd22 ct22), sl22⟩) (c22 : PySem.W.codeIn K cd22 "_law_free" = true) (k22 : PySem.W.keepIn K (.ref f22) = true)
    {f23 : Addr} {od23 an23 : Option Addr} {sl23 : Array (Option Value)} {oc23 kV23 dc23 pm23 cd23 ct23 : Value}
    (a23 : PySem.W.nsIn K mainGlobals "_law_worth" = some (some (.ref f23))) (l23 : K.lookup f23 = some ⟨oc23, od23, .func (PySem.W.fnOf "_law_worth" "_law_worth" (defArgs s__law_worth) (defBody s__law_worth) (defScope s__law_worth) .none kV23 dc23 pm23 an23 cd23 ct23), sl23⟩) (c23 : PySem.W.codeIn K cd23 "_law_worth" = true) (k23 : PySem.W.keepIn K (.ref f23) = true)
    {f24 : Addr} {od24 an24 : Option Addr} {sl24 : Array (Option Value)} {oc24 kV24 dc24 pm24 cd24 ct24 : Value}
    (a24 : PySem.W.nsIn K mainGlobals "_law_is_row" = some (some (.ref f24))) (l24 : K.lookup f24 = some ⟨oc24, od24, .func (PySem.W.fnOf "_law_is_row" "_law_is_row" (defArgs s__law_is_row) (defBody s__law_is_row) (defScope s__law_is_row) .none kV24 dc24 pm24 an24 cd24 ct24), sl24⟩) (c24 : PySem.W.codeIn K cd24 "_law_is_row" = true) (k24 : PySem.W.keepIn K (.ref f24) = true)
    {f25 : Addr} {od25 an25 : Option Addr} {sl25 : Array (Option Value)} {oc25 kV25 dc25 pm25 cd25 ct25 : Value}
    (a25 : PySem.W.nsIn K mainGlobals "_law_spread" = some (some (.ref f25))) (l25 : K.lookup f25 = some ⟨oc25, od25, .func (PySem.W.fnOf "_law_spread" "_law_spread" (defArgs s__law_spread) (defBody s__law_spread) (defScope s__law_spread) .none kV25 dc25 pm25 an25 cd25 ct25), sl25⟩) (c25 : PySem.W.codeIn K cd25 "_law_spread" = true) (k25 : PySem.W.keepIn K (.ref f25) = true)
    {f26 : Addr} {od26 an26 : Option Addr} {sl26 : Array (Option Value)} {oc26 kV26 dc26 pm26 cd26 ct26 : Value}
    (a26 : PySem.W.nsIn K mainGlobals "_law_not_free" = some (some (.ref f26))) (l26 : K.lookup f26 = some ⟨oc26, od26, .func (PySem.W.fnOf "_law_not_free" "_law_not_free" (defArgs s__law_not_free) (defBody s__law_not_free) (defScope s__law_not_free) .none kV26 dc26 pm26 an26 cd26 ct26), sl26⟩) (c26 : PySem.W.codeIn K cd26 "_law_not_free" = true) (k26 : PySem.W.keepIn K (.ref f26) = true)
    {f27 : Addr} {od27 an27 : Option Addr} {sl27 : Array (Option Value)} {oc27 kV27 dc27 pm27 cd27 ct27 : Value}
    (a27 : PySem.W.nsIn K mainGlobals "_law_right" = some (some (.ref f27))) (l27 : K.lookup f27 = some ⟨oc27, od27, .func (PySem.W.fnOf "_law_right" "_law_right" (defArgs s__law_right) (defBody s__law_right) (defScope s__law_right) .none kV27 dc27 pm27 an27 cd27 ct27), sl27⟩) (c27 : PySem.W.codeIn K cd27 "_law_right" = true) (k27 : PySem.W.keepIn K (.ref f27) = true)
    {f28 : Addr} {od28 an28 : Option Addr} {sl28 : Array (Option Value)} {oc28 kV28 dc28 pm28 cd28 ct28 : Value}
    (a28 : PySem.W.nsIn K mainGlobals "law" = some (some (.ref f28))) (l28 : K.lookup f28 = some ⟨oc28, od28, .func (PySem.W.fnOf "law" "law" (defArgs s_law) (defBody s_law) (defScope s_law) .none kV28 dc28 pm28 an28 cd28 ct28), sl28⟩) (c28 : PySem.W.codeIn K cd28 "law" = true) (k28 : PySem.W.keepIn K (.ref f28) = true)
    (z_bool : PySem.W.nsIn K mainGlobals "bool" = some none)
    (z_enumerate : PySem.W.nsIn K mainGlobals "enumerate" = some none)
    (z_int : PySem.W.nsIn K mainGlobals "int" = some none)
    (z_isinstance : PySem.W.nsIn K mainGlobals "isinstance" = some none)
    (z_len : PySem.W.nsIn K mainGlobals "len" = some none)
    (z_list : PySem.W.nsIn K mainGlobals "list" = some none)
    (z_max : PySem.W.nsIn K mainGlobals "max" = some none)
    (z_min : PySem.W.nsIn K mainGlobals "min" = some none)
    (z_range : PySem.W.nsIn K mainGlobals "range" = some none)
    (z_repr : PySem.W.nsIn K mainGlobals "repr" = some none)
    (z_sorted : PySem.W.nsIn K mainGlobals "sorted" = some none)
    (z_sum : PySem.W.nsIn K mainGlobals "sum" = some none)
    (z_tuple : PySem.W.nsIn K mainGlobals "tuple" = some none)
    (z_zip : PySem.W.nsIn K mainGlobals "zip" = some none)
    (z_ValueError : PySem.W.nsIn K mainGlobals "ValueError" = some none)
    (en_get : PySem.W.specialIn K (.builtin "object.__class__") "__get__" = some (some (.builtin "getset_descriptor.__get__"))) (en_set : PySem.W.takesIn K (.builtin "object.__class__") = some true)
    {C0 : Addr} (ea0 : PySem.W.nsIn K mainGlobals "CallError" = some (some (.ref C0))) (ek0 : PySem.W.keepIn K (.ref C0) = true) (eb0 : PySem.W.subIn K (.ref C0) (.type "BaseException") = some true) (et0 : PySem.W.typeIn K (.ref C0) = some (.type "type")) (ed0 : PySem.W.hasDictIn K C0 = true)
    (eg0 : PySem.W.findIn K (.ref C0) "__getattribute__" = some (some (.builtin "BaseException.__getattribute__"))) (eh0 : PySem.W.findIn K (.ref C0) "__getattr__" = some none) (ec0 : PySem.W.findIn K (.ref C0) "__class__" = some (some (.builtin "object.__class__"))) (em0 : PySem.W.mroIn K C0 (.type "object") = some true)
    (ex0 : PySem.W.excIn K C0 [.type "ValueError", .type "Exception", .type "BaseException", .type "object"] "ValueError.__new__" = true)
    {C1 : Addr} (ea1 : PySem.W.nsIn K mainGlobals "NoRow" = some (some (.ref C1))) (ek1 : PySem.W.keepIn K (.ref C1) = true) (eb1 : PySem.W.subIn K (.ref C1) (.type "BaseException") = some true) (et1 : PySem.W.typeIn K (.ref C1) = some (.type "type")) (ed1 : PySem.W.hasDictIn K C1 = true)
    (eg1 : PySem.W.findIn K (.ref C1) "__getattribute__" = some (some (.builtin "BaseException.__getattribute__"))) (eh1 : PySem.W.findIn K (.ref C1) "__getattr__" = some none) (ec1 : PySem.W.findIn K (.ref C1) "__class__" = some (some (.builtin "object.__class__"))) (em1 : PySem.W.mroIn K C1 (.type "object") = some true)
    (ex1 : PySem.W.excIn K C1 [.type "ValueError", .type "Exception", .type "BaseException", .type "object"] "ValueError.__new__" = true)
    {C2 : Addr} (ea2 : PySem.W.nsIn K mainGlobals "NotKnown" = some (some (.ref C2))) (ek2 : PySem.W.keepIn K (.ref C2) = true) (eb2 : PySem.W.subIn K (.ref C2) (.type "BaseException") = some true) (et2 : PySem.W.typeIn K (.ref C2) = some (.type "type")) (ed2 : PySem.W.hasDictIn K C2 = true)
    (eg2 : PySem.W.findIn K (.ref C2) "__getattribute__" = some (some (.builtin "BaseException.__getattribute__"))) (eh2 : PySem.W.findIn K (.ref C2) "__getattr__" = some none) (ec2 : PySem.W.findIn K (.ref C2) "__class__" = some (some (.builtin "object.__class__"))) (em2 : PySem.W.mroIn K C2 (.type "object") = some true)
    {C3 : Addr} (ea3 : PySem.W.nsIn K mainGlobals "Full" = some (some (.ref C3))) (ek3 : PySem.W.keepIn K (.ref C3) = true) (eb3 : PySem.W.subIn K (.ref C3) (.type "BaseException") = some true) (et3 : PySem.W.typeIn K (.ref C3) = some (.type "type")) (ed3 : PySem.W.hasDictIn K C3 = true)
    (eg3 : PySem.W.findIn K (.ref C3) "__getattribute__" = some (some (.builtin "BaseException.__getattribute__"))) (eh3 : PySem.W.findIn K (.ref C3) "__getattr__" = some none) (ec3 : PySem.W.findIn K (.ref C3) "__class__" = some (some (.builtin "object.__class__"))) (em3 : PySem.W.mroIn K C3 (.type "object") = some true)
    (ex3 : PySem.W.excIn K C3 [.type "ValueError", .type "Exception", .type "BaseException", .type "object"] "ValueError.__new__" = true)
    {C4 : Addr} (ea4 : PySem.W.nsIn K mainGlobals "NotFree" = some (some (.ref C4))) (ek4 : PySem.W.keepIn K (.ref C4) = true) (eb4 : PySem.W.subIn K (.ref C4) (.type "BaseException") = some true) (et4 : PySem.W.typeIn K (.ref C4) = some (.type "type")) (ed4 : PySem.W.hasDictIn K C4 = true)
    (eg4 : PySem.W.findIn K (.ref C4) "__getattribute__" = some (some (.builtin "BaseException.__getattribute__"))) (eh4 : PySem.W.findIn K (.ref C4) "__getattr__" = some none) (ec4 : PySem.W.findIn K (.ref C4) "__class__" = some (some (.builtin "object.__class__"))) (em4 : PySem.W.mroIn K C4 (.type "object") = some true)
    (ex4 : PySem.W.excIn K C4 [.type "ValueError", .type "Exception", .type "BaseException", .type "object"] "ValueError.__new__" = true)
    (s0_0 : PySem.W.subIn K (.ref C0) (.ref C0) = some true)
    (s1_1 : PySem.W.subIn K (.ref C1) (.ref C1) = some true)
    (s2_2 : PySem.W.subIn K (.ref C2) (.ref C2) = some true)
    (s3_3 : PySem.W.subIn K (.ref C3) (.ref C3) = some true)
    (s4_0 : PySem.W.subIn K (.ref C4) (.ref C0) = some true)
    (s4_1 : PySem.W.subIn K (.ref C4) (.ref C1) = some false)
    (s4_2 : PySem.W.subIn K (.ref C4) (.ref C2) = some false)
    (s4_3 : PySem.W.subIn K (.ref C4) (.ref C3) = some false)
    (s4_4 : PySem.W.subIn K (.ref C4) (.ref C4) = some true)
    (s4_ValueError : PySem.W.subIn K (.ref C4) (.type "ValueError") = some true)
    {cT PT : Addr} {ocT : Value} {odT : Option Addr} {slT : Array (Option Value)} {vsT : Array Value} (hcd : cd27 = .ref cT) (lT : K.lookup cT = some ⟨ocT, odT, .fields vsT, slT⟩) (h11 : vsT[11]? = some (.ref PT)) (tk : K.lookup PT = none)
    : ∃ (fd : FuncData) (c P : Addr), PySem.W.tabIn K "_law_right" = some (c, P) ∧ K.lookup P = none ∧ (∀ (s : Shared) (v : Value), BindsTo s fd ⟨[v], []⟩ [("_law_script", v)]) ∧ ∀ base : Heap, K.In base → base.Ns mainGlobals mg → HasSys base → LamX.TabB base mg c P → FnG l.prog w K mg base CX0 14 fa fd ["_law_script"] (sp_law K P) := by
  have e := hfa.symm.trans (PySem.W.mg_of X G a28)
  cases e
  have T : Top K mg := {
    e_CallError := err_of X G ea0 ek0 eb0 et0 ed0 eg0 eh0 ec0 em0 en_get en_set,
    n_CallError := by rw [adr_of (PySem.W.mg_of X G ea0)]; exact ex0,
    e_NoRow := err_of X G ea1 ek1 eb1 et1 ed1 eg1 eh1 ec1 em1 en_get en_set,
    n_NoRow := by rw [adr_of (PySem.W.mg_of X G ea1)]; exact ex1,
    e_NotKnown := err_of X G ea2 ek2 eb2 et2 ed2 eg2 eh2 ec2 em2 en_get en_set,
    e_Full := err_of X G ea3 ek3 eb3 et3 ed3 eg3 eh3 ec3 em3 en_get en_set,
    n_Full := by rw [adr_of (PySem.W.mg_of X G ea3)]; exact ex3,
    e_NotFree := err_of X G ea4 ek4 eb4 et4 ed4 eg4 eh4 ec4 em4 en_get en_set,
    n_NotFree := by rw [adr_of (PySem.W.mg_of X G ea4)]; exact ex4,
    s_CallError_CallError := by rw [adr_of (PySem.W.mg_of X G ea0)]; exact s0_0,
    s_NoRow_NoRow := by rw [adr_of (PySem.W.mg_of X G ea1)]; exact s1_1,
    s_NotKnown_NotKnown := by rw [adr_of (PySem.W.mg_of X G ea2)]; exact s2_2,
    s_Full_Full := by rw [adr_of (PySem.W.mg_of X G ea3)]; exact s3_3,
    s_NotFree_CallError := by rw [adr_of (PySem.W.mg_of X G ea4), adr_of (PySem.W.mg_of X G ea0)]; exact s4_0,
    s_NotFree_NoRow := by rw [adr_of (PySem.W.mg_of X G ea4), adr_of (PySem.W.mg_of X G ea1)]; exact s4_1,
    s_NotFree_NotKnown := by rw [adr_of (PySem.W.mg_of X G ea4), adr_of (PySem.W.mg_of X G ea2)]; exact s4_2,
    s_NotFree_Full := by rw [adr_of (PySem.W.mg_of X G ea4), adr_of (PySem.W.mg_of X G ea3)]; exact s4_3,
    s_NotFree_NotFree := by rw [adr_of (PySem.W.mg_of X G ea4)]; exact s4_4,
    s_NotFree_ValueError := by rw [adr_of (PySem.W.mg_of X G ea4)]; exact s4_ValueError,
    b_bool := PySem.W.mg_none_of X G z_bool,
    b_enumerate := PySem.W.mg_none_of X G z_enumerate,
    b_int := PySem.W.mg_none_of X G z_int,
    b_isinstance := PySem.W.mg_none_of X G z_isinstance,
    b_len := PySem.W.mg_none_of X G z_len,
    b_list := PySem.W.mg_none_of X G z_list,
    b_max := PySem.W.mg_none_of X G z_max,
    b_min := PySem.W.mg_none_of X G z_min,
    b_range := PySem.W.mg_none_of X G z_range,
    b_repr := PySem.W.mg_none_of X G z_repr,
    b_sorted := PySem.W.mg_none_of X G z_sorted,
    b_sum := PySem.W.mg_none_of X G z_sum,
    b_tuple := PySem.W.mg_none_of X G z_tuple,
    b_zip := PySem.W.mg_none_of X G z_zip,
    b_ValueError := PySem.W.mg_none_of X G z_ValueError,
    d_contrary := df_of X G a0 l0 c0 k0 (fun _ _ _ _ _ _ us hl => match us, hl with | [_, _], _ => rfl),
    d_added := df_of X G a1 l1 c1 k1 (fun _ _ _ _ _ _ us hl => match us, hl with | [_, _, _], _ => rfl),
    d_times := df_of X G a2 l2 c2 k2 (fun _ _ _ _ _ _ us hl => match us, hl with | [_, _, _], _ => rfl),
    d_worth := df_of X G a3 l3 c3 k3 (fun _ _ _ _ _ _ us hl => match us, hl with | [_, _, _], _ => rfl),
    d_first_place := df_of X G a4 l4 c4 k4 (fun _ _ _ _ _ _ us hl => match us, hl with | [_], _ => rfl),
    d_cleared := df_of X G a5 l5 c5 k5 (fun _ _ _ _ _ _ us hl => match us, hl with | [_, _, _], _ => rfl),
    d_left_of := df_of X G a6 l6 c6 k6 (fun _ _ _ _ _ _ us hl => match us, hl with | [_, _, _], _ => rfl),
    d_widened := df_of X G a7 l7 c7 k7 (fun _ _ _ _ _ _ us hl => match us, hl with | [_, _, _], _ => rfl),
    d_room_of := df_of X G a8 l8 c8 k8 (fun _ _ _ _ _ _ us hl => match us, hl with | [_, _, _], _ => rfl),
    d_across := df_of X G a9 l9 c9 k9 (fun _ _ _ _ _ _ us hl => match us, hl with | [_, _, _], _ => rfl),
    d_across_at := df_of X G a10 l10 c10 k10 (fun _ _ _ _ _ _ us hl => match us, hl with | [_, _, _, _], _ => rfl),
    d_are_free := df_of X G a11 l11 c11 k11 (fun _ _ _ _ _ _ us hl => match us, hl with | [_, _, _, _], _ => rfl),
    d_turns := df_of X G a12 l12 c12 k12 (fun _ _ _ _ _ _ us hl => match us, hl with | [_, _, _, _], _ => rfl),
    d_turn_of := df_of X G a13 l13 c13 k13 (fun _ _ _ _ _ _ us hl => match us, hl with | [_, _, _, _], _ => rfl),
    d_with_rests := df_of X G a14 l14 c14 k14 (fun _ _ _ _ _ _ us hl => match us, hl with | [_, _, _, _, _, _], _ => rfl),
    d__law_draws := df_of X G a15 l15 c15 k15 (fun _ _ _ _ _ _ us hl => match us, hl with | [_], _ => rfl),
    d__law_next := df_of X G a16 l16 c16 k16 (fun _ _ _ _ _ _ us hl => match us, hl with | [_, _], _ => rfl),
    d__law_row := df_of X G a17 l17 c17 k17 (fun _ _ _ _ _ _ us hl => match us, hl with | [_, _, _], _ => rfl),
    d__law_plus := df_of X G a18 l18 c18 k18 (fun _ _ _ _ _ _ us hl => match us, hl with | [_, _, _, _], _ => rfl),
    d__law_less := df_of X G a19 l19 c19 k19 (fun _ _ _ _ _ _ us hl => match us, hl with | [_, _, _], _ => rfl),
    d__law_steps := df_of X G a20 l20 c20 k20 (fun _ _ _ _ _ _ us hl => match us, hl with | [_, _], _ => rfl),
    d__law_size := df_of X G a21 l21 c21 k21 (fun _ _ _ _ _ _ us hl => match us, hl with | [_, _], _ => rfl),
    d__law_free := df_of X G a22 l22 c22 k22 (fun _ _ _ _ _ _ us hl => match us, hl with | [_, _, _], _ => rfl),
    d__law_worth := df_of X G a23 l23 c23 k23 (fun _ _ _ _ _ _ us hl => match us, hl with | [_, _, _], _ => rfl),
    d__law_is_row := df_of X G a24 l24 c24 k24 (fun _ _ _ _ _ _ us hl => match us, hl with | [_, _, _], _ => rfl),
    d__law_spread := df_of X G a25 l25 c25 k25 (fun _ _ _ _ _ _ us hl => match us, hl with | [_], _ => rfl),
    d__law_not_free := df_of X G a26 l26 c26 k26 (fun _ _ _ _ _ _ us hl => match us, hl with | [_], _ => rfl),
    d__law_right := df_of X G a27 l27 c27 k27 (fun _ _ _ _ _ _ us hl => match us, hl with | [_, _, _, _, _, _], _ => rfl) }
  have tb := tab_mk a27 l27 rfl hcd lT h11
  have C : DfC K mg "_law_right" s__law_right ["_law_p", "_law_n", "_law_room", "_law_rows", "_law_world", "_law_rests"] cT := dfC_of X G a27 l27 c27 k27 tb (fun _ _ _ _ _ _ us hl => match us, hl with | [_, _, _, _, _, _], _ => rfl)
  have F := fun_mk (st := s_law) l28 c28 k28
  exact ⟨PySem.W.fnOf "law" "law" (defArgs s_law) (defBody s_law) (defScope s_law) .none kV28 dc28 pm28 an28 cd28 ct28, cT, PT, tb, tk, fun s v => .of_eq rfl, fun base _ _ hs B => ok_law ⟨T, C, B⟩ hs F⟩
end OC
open PySem PySem.W PyProof.Rows
set_option Elab.async false
set_option maxRecDepth 100000 in
set_option maxHeartbeats 0 in
theorem PySem.Challenge.cw_opencalls_k60_worlds_with_rests_holds : PySem.Challenge.rw_opencalls_k60_worlds_with_rests.Holds := by
  w_on; o_law; k_head; (case hw => w_witness2)
  k_fill
  refine OC.walk_ofT (l := PySem.Challenge.rw_opencalls_k60_worlds_with_rests) (n := 63) (k := 14) (x := "_law_script") (nT := "_law_right") (CX := fun _ => L2.CX0) (sp := fun w P => OC.sp_law _ P) rfl (by decide) rfl ⟨rfl, by decide, by decide⟩ (by decide +kernel) (by rfl) (fun w h Y => PySem.W.km_in_of Y) ?F (fun _ _ _ a ns hl hP hS => ⟨a, ns, rfl, hS, hl, hP, fun _ => rfl⟩) (fun _ _ _ _ _ h => h)
  case F =>
    intro w mg fa h KX G hmg
    refine' OC.all_mk KX G hmg ?a0 ?l0 ?c0 ?k0 ?a1 ?l1 ?c1 ?k1 ?a2 ?l2 ?c2 ?k2 ?a3 ?l3 ?c3 ?k3 ?a4 ?l4 ?c4 ?k4 ?a5 ?l5 ?c5 ?k5 ?a6 ?l6 ?c6 ?k6 ?a7 ?l7 ?c7 ?k7 ?a8 ?l8 ?c8 ?k8 ?a9 ?l9 ?c9 ?k9 ?a10 ?l10 ?c10 ?k10 ?a11 ?l11 ?c11 ?k11 ?a12 ?l12 ?c12 ?k12 ?a13 ?l13 ?c13 ?k13 ?a14 ?l14 ?c14 ?k14 ?a15 ?l15 ?c15 ?k15 ?a16 ?l16 ?c16 ?k16 ?a17 ?l17 ?c17 ?k17 ?a18 ?l18 ?c18 ?k18 ?a19 ?l19 ?c19 ?k19 ?a20 ?l20 ?c20 ?k20 ?a21 ?l21 ?c21 ?k21 ?a22 ?l22 ?c22 ?k22 ?a23 ?l23 ?c23 ?k23 ?a24 ?l24 ?c24 ?k24 ?a25 ?l25 ?c25 ?k25 ?a26 ?l26 ?c26 ?k26 ?a27 ?l27 ?c27 ?k27 ?a28 ?l28 ?c28 ?k28 ?z_bool ?z_enumerate ?z_int ?z_isinstance ?z_len ?z_list ?z_max ?z_min ?z_range ?z_repr ?z_sorted ?z_sum ?z_tuple ?z_zip ?z_ValueError ?en_get ?en_set ?ea0 ?ek0 ?eb0 ?et0 ?ed0 ?eg0 ?eh0 ?ec0 ?em0 ?ex0 ?ea1 ?ek1 ?eb1 ?et1 ?ed1 ?eg1 ?eh1 ?ec1 ?em1 ?ex1 ?ea2 ?ek2 ?eb2 ?et2 ?ed2 ?eg2 ?eh2 ?ec2 ?em2 ?ea3 ?ek3 ?eb3 ?et3 ?ed3 ?eg3 ?eh3 ?ec3 ?em3 ?ex3 ?ea4 ?ek4 ?eb4 ?et4 ?ed4 ?eg4 ?eh4 ?ec4 ?em4 ?ex4 ?s0_0 ?s1_1 ?s2_2 ?s3_3 ?s4_0 ?s4_1 ?s4_2 ?s4_3 ?s4_4 ?s4_ValueError ?hcd ?lT ?h11 ?tk
    (case a0 => k_is); (case l0 => k_is); (case c0 => k_is); (case k0 => k_is); (case a1 => k_is); (case l1 => k_is); (case c1 => k_is); (case k1 => k_is); (case a2 => k_is); (case l2 => k_is); (case c2 => k_is); (case k2 => k_is); (case a3 => k_is); (case l3 => k_is); (case c3 => k_is); (case k3 => k_is); (case a4 => k_is); (case l4 => k_is); (case c4 => k_is); (case k4 => k_is); (case a5 => k_is); (case l5 => k_is); (case c5 => k_is); (case k5 => k_is); (case a6 => k_is); (case l6 => k_is); (case c6 => k_is); (case k6 => k_is); (case a7 => k_is); (case l7 => k_is); (case c7 => k_is); (case k7 => k_is); (case a8 => k_is); (case l8 => k_is); (case c8 => k_is); (case k8 => k_is); (case a9 => k_is); (case l9 => k_is); (case c9 => k_is); (case k9 => k_is); (case a10 => k_is); (case l10 => k_is); (case c10 => k_is); (case k10 => k_is); (case a11 => k_is); (case l11 => k_is); (case c11 => k_is); (case k11 => k_is); (case a12 => k_is); (case l12 => k_is); (case c12 => k_is); (case k12 => k_is); (case a13 => k_is); (case l13 => k_is); (case c13 => k_is); (case k13 => k_is); (case a14 => k_is); (case l14 => k_is); (case c14 => k_is); (case k14 => k_is); (case a15 => k_is); (case l15 => k_is); (case c15 => k_is); (case k15 => k_is); (case a16 => k_is); (case l16 => k_is); (case c16 => k_is); (case k16 => k_is); (case a17 => k_is); (case l17 => k_is); (case c17 => k_is); (case k17 => k_is); (case a18 => k_is); (case l18 => k_is); (case c18 => k_is); (case k18 => k_is); (case a19 => k_is); (case l19 => k_is); (case c19 => k_is); (case k19 => k_is); (case a20 => k_is); (case l20 => k_is); (case c20 => k_is); (case k20 => k_is); (case a21 => k_is); (case l21 => k_is); (case c21 => k_is); (case k21 => k_is); (case a22 => k_is); (case l22 => k_is); (case c22 => k_is); (case k22 => k_is); (case a23 => k_is); (case l23 => k_is); (case c23 => k_is); (case k23 => k_is); (case a24 => k_is); (case l24 => k_is); (case c24 => k_is); (case k24 => k_is); (case a25 => k_is); (case l25 => k_is); (case c25 => k_is); (case k25 => k_is); (case a26 => k_is); (case l26 => k_is); (case c26 => k_is); (case k26 => k_is); (case a27 => k_is); (case l27 => k_is); (case c27 => k_is); (case k27 => k_is); (case a28 => k_is); (case l28 => k_is); (case c28 => k_is); (case k28 => k_is); (case z_bool => k_is); (case z_enumerate => k_is); (case z_int => k_is); (case z_isinstance => k_is); (case z_len => k_is); (case z_list => k_is); (case z_max => k_is); (case z_min => k_is); (case z_range => k_is); (case z_repr => k_is); (case z_sorted => k_is); (case z_sum => k_is); (case z_tuple => k_is); (case z_zip => k_is); (case z_ValueError => k_is); (case en_get => k_is); (case en_set => k_is); (case ea0 => k_is); (case ek0 => k_is); (case eb0 => k_is); (case et0 => k_is); (case ed0 => k_is); (case eg0 => k_is); (case eh0 => k_is); (case ec0 => k_is); (case em0 => k_is); (case ex0 => k_exc); (case ea1 => k_is); (case ek1 => k_is); (case eb1 => k_is); (case et1 => k_is); (case ed1 => k_is); (case eg1 => k_is); (case eh1 => k_is); (case ec1 => k_is); (case em1 => k_is); (case ex1 => k_exc); (case ea2 => k_is); (case ek2 => k_is); (case eb2 => k_is); (case et2 => k_is); (case ed2 => k_is); (case eg2 => k_is); (case eh2 => k_is); (case ec2 => k_is); (case em2 => k_is); (case ea3 => k_is); (case ek3 => k_is); (case eb3 => k_is); (case et3 => k_is); (case ed3 => k_is); (case eg3 => k_is); (case eh3 => k_is); (case ec3 => k_is); (case em3 => k_is); (case ex3 => k_exc); (case ea4 => k_is); (case ek4 => k_is); (case eb4 => k_is); (case et4 => k_is); (case ed4 => k_is); (case eg4 => k_is); (case eh4 => k_is); (case ec4 => k_is); (case em4 => k_is); (case ex4 => k_exc); (case s0_0 => k_is); (case s1_1 => k_is); (case s2_2 => k_is); (case s3_3 => k_is); (case s4_0 => k_is); (case s4_1 => k_is); (case s4_2 => k_is); (case s4_3 => k_is); (case s4_4 => k_is); (case s4_ValueError => k_is); (case hcd => exact rfl); (case lT => k_is); (case h11 => exact rfl); (case tk => first | exact rfl | decide +kernel)
