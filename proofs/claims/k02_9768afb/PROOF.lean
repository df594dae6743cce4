import PyProof.Rows.All
import Wide.All
import OpenK.AllK
import Wide.FinOn
import HandS.Base
import HandS.Call
import HandS.List
import HandS.Comp
import HandS.Ends
import HandS.Dict
import HandS.Iter
import HandS.Text
import HandS.Words
import HandS.WordsList
import HandS.WordsDict
import HandS.IsInst
import HandS.Zip
import HandS.Conv
import HandS.Walk
import HandS.Style
import HandS.TupAny
import HandS.TupMul
import HandS.EndBits
import HandS.Codes
import PySem.Challenge.RW_opencalls_k02_rows_judged
set_option Elab.async false
set_option linter.all false
set_option maxRecDepth 100000
namespace OC
open PySem PySem.Spec PyProof.Rows L2

/-! ### defs and their promises, by name -/
structure Df (K : PySem.W.Frag) (mg : Str → Option Value) (x : Str) (st : Stmt) (ps : List Str) : Prop where
  ex : ∃ (f : Addr) (fd : FuncData), Fun K x x st f fd ∧ Binds K fd ps [] ∧ mg x = some (.ref f)
structure Ok (P : Program) (w : World) (K : PySem.W.Frag) (mg : Str → Option Value) (base : Heap) (k : Nat) (x : Str) (ps : List Str) (sp : Sp) : Prop where
  ex : ∃ (f : Addr) (fd : FuncData), FnOk P w K mg base CX0 k f fd ps sp ∧ mg x = some (.ref f) ∧ PySem.W.keepIn K (.ref f) = true ∧ Binds K fd ps []
section
variable {P : Program} {w : World} {K : PySem.W.Frag} {mg : Str → Option Value} {base : Heap}
theorem Df.ok {x : Str} {st : Stmt} {N ps : List Str} {k : Nat} {sp : Sp} (D : Df K mg x st ps) (S : FnScope N ps (defScope st)) (len : ∀ vs H Q E, sp vs H Q E → vs.length = ps.length)
    (hbody : ∀ (f : Addr) (cdv : Value) (A : Around) (outer : List Env) (s : Shared) (H : Hp) (vs : List V) (Q : VK) (E : XK), Room k (A.deeper (envOfC x (defScope st) s.heap.objs.size f cdv)) → sp vs H Q E →
      ∃ t, PSs (cxOf CX0 P w K mg base N x (defScope st) f cdv A outer s H E).nox (defBody st) t ∧ t { nx := fun _ H' => Q .non H', rt := Q } (start N vs) H) : Ok P w K mg base (k + 1) x ps sp := by
  obtain ⟨f, fd, F, b, g⟩ := D.ex
  exact ⟨f, fd, F.ok S len (hbody f), g, F.kp, b⟩
theorem Ok.mono {x : Str} {ps : List Str} {j k : Nat} {sp : Sp} (O : Ok P w K mg base j x ps sp) (h : j ≤ k) : Ok P w K mg base k x ps sp := by
  obtain ⟨f, fd, F, r⟩ := O.ex
  exact ⟨f, fd, F.mono h, r⟩
theorem Ok.imp {x : Str} {ps : List Str} {k : Nat} {sp sp' : Sp} (O : Ok P w K mg base k x ps sp) (h : ∀ vs H Q E, sp' vs H Q E → sp vs H Q E) : Ok P w K mg base k x ps sp' := by
  obtain ⟨f, fd, F, r⟩ := O.ex
  exact ⟨f, fd, F.imp h, r⟩
end
section
variable {X : Cx} {x : Str} {ps : List Str} {k : Nat} {sp : Sp}
theorem pe_callO {e : Expr} {es : List Expr} {t : TA} {p pos : Pos} (O : Ok X.prog X.w X.K X.mg X.base k x ps sp) (hr : Room k X.A) (hg : Gl X x) (ha : PA X (e :: es) t) (hdb : (x == ("__debug__" : Str)) = false := by decide)
    (he : starEach (e :: es) X.env = (false, eval e X.env) :: starEach es X.env := by rfl) (hpl : (backTo pos (starEach es X.env)).any (·.1) = false := by rfl) :
    PE X (.Call (.Name x p) (e :: es) [] pos) (tCall sp [] E0 t) := by
  obtain ⟨f, fd, F, g, kp, b⟩ := O.ex
  exact pe_call F hr hg g kp b .nil pass0 ha hdb he hpl
theorem pe_callO0 {p pos : Pos} (O : Ok X.prog X.w X.K X.mg X.base k x ps sp) (hr : Room k X.A) (hg : Gl X x) (hdb : (x == ("__debug__" : Str)) = false := by decide) :
    PE X (.Call (.Name x p) [] [] pos) (tCall sp [] E0 tNil) := by
  obtain ⟨f, fd, F, g, kp, b⟩ := O.ex
  exact pe_call0 F hr hg g kp b .nil pass0 hdb
end
/-! ### from the head's facts -/
theorem df_of {K : PySem.W.Frag} {h : Heap} {mg : Str → Option Value} {x : Str} {st : Stmt} {ps : List Str} {f : Addr} {oc : Value} {od an : Option Addr} {osl : Array (Option Value)} {kV doc pm cdv ct : Value} (X : K.In h) (G : h.Ns mainGlobals mg)
    (a : PySem.W.nsIn K mainGlobals x = some (some (.ref f)))
    (l : K.lookup f = some ⟨oc, od, .func (PySem.W.fnOf x x (defArgs st) (defBody st) (defScope st) .none kV doc pm an cdv ct), osl⟩)
    (c : PySem.W.codeIn K cdv x = true) (k : PySem.W.keepIn K (.ref f) = true)
    (hb : ∀ (kV doc pm : Value) (an : Option Addr) (cdv ct : Value) (us : List Value), us.length = ps.length → bindArgs (PySem.W.fnOf x x (defArgs st) (defBody st) (defScope st) .none kV doc pm an cdv ct) ⟨us, []⟩ = pure (ps.zip us)) :
    Df K mg x st ps := by
  have F := fun_mk (st := st) l c k
  exact ⟨f, _, F, F.binds hb, PySem.W.mg_of X G a⟩
end OC

set_option Elab.async false
set_option linter.all false
set_option maxRecDepth 100000
namespace OC
open PySem PySem.Spec PyProof.Rows L2

/-! ### kinds of values -/
inductive Kd where
  | non | bl | int | str | lst | tup | dct
  deriving DecidableEq
def Kd.name : Kd → String
  | .non => "NoneType" | .bl => "bool" | .int => "int" | .str => "str" | .lst => "list" | .tup => "tuple" | .dct => "dict"
def KdOf (K : PySem.W.Frag) (H : Hp) (v : V) (k : Kd) : Prop := TyX K H v (.type k.name)
section
variable {K : PySem.W.Frag} {H : Hp}
theorem kd_int (i : Int) : KdOf K H (.int i) .int := .base (.int i)
theorem kd_bl (b : Bool) : KdOf K H (.bl b) .bl := .base (.bl b)
theorem kd_non : KdOf K H .non .non := .base .non
theorem kd_str (x : Str) : KdOf K H (.str x) .str := .base (.str x)
theorem kd_tup {a : Addr} {xs : List V} (h : SqT K H a xs) : KdOf K H (.ref a) .tup := by
  rcases h with (h | ⟨o, h⟩) | ⟨o, its, n, h, c, _⟩
  · exact .base (.tup h)
  · exact .fTuple h
  · exact .kTuple h c
theorem kd_lst {a : Addr} {xs : List V} (h : SqL K H a xs) : KdOf K H (.ref a) .lst := by
  rcases h with (h | ⟨o, h⟩) | ⟨o, its, n, h, c, _⟩
  · exact .base (.lst h)
  · exact .base (.frz h)
  · exact .kList h c
theorem kd_dct {a : Addr} {kvs : List (Key × V)} (h : H a = some (.dK kvs)) : KdOf K H (.ref a) .dct := .base (.dK h)
theorem kit_int (k : Kd) : PySem.W.kitOne K (.type k.name) (.type "int") = some (decide (k = .int) || decide (k = .bl)) := by
  cases k <;> exact kit_ty (by decide +kernel)
theorem kit_bool (k : Kd) : PySem.W.kitOne K (.type k.name) (.type "bool") = some (decide (k = .bl)) := by
  cases k <;> exact kit_ty (by decide +kernel)
theorem kit_tuple (k : Kd) : PySem.W.kitOne K (.type k.name) (.type "tuple") = some (decide (k = .tup)) := by
  cases k <;> exact kit_ty (by decide +kernel)
theorem kit_str (k : Kd) : PySem.W.kitOne K (.type k.name) (.type "str") = some (decide (k = .str)) := by
  cases k <;> exact kit_ty (by decide +kernel)
theorem kd_is_int {v : V} {k : Kd} (h : KdOf K H v k) (e : k = .int) : ∃ i, v = .int i := by
  subst e
  generalize hx : (Value.type (Kd.name .int)) = t at h
  unfold KdOf at h
  rw [hx] at h
  cases h with
  | base h => cases h with
    | int i => exact ⟨i, rfl⟩
    | ins => cases hx
    | _ => exact absurd (Value.type.inj hx) (by decide)
  | _ => exact absurd (Value.type.inj hx) (by decide)
end

/-! ### heaps -/
theorem same_upd {H : Hp} {p : Addr} {o : HO} (h : H p = none) : Same H (upd H p o) := fun b x e => by
  rw [upd_ne (ne_of_none e h)]
  exact e
theorem same_mut {H H' : Hp} {p : Addr} {o : HO} (e : Same H H') (h : H p = none) : Same H (upd H' p o) := fun b x q => by
  rw [upd_ne (ne_of_none q h)]
  exact e b x q
theorem Same.tup {K : PySem.W.Frag} {H H' : Hp} {a : Addr} {xs : List V} (e : Same H H') (h : SqT K H a xs) : SqT K H' a xs := by
  rcases h with (h | ⟨o, h⟩) | h
  · exact .inl (.inl (e _ _ h))
  · exact .inl (.inr ⟨o, e _ _ h⟩)
  · exact .inr h
/-- all but the deck's two lists stays -/
def Kept (d c : Addr) (H H' : Hp) : Prop := ∀ b o, H b = some o → b ≠ d → b ≠ c → H' b = some o
theorem Kept.refl (d c : Addr) (H : Hp) : Kept d c H H := fun _ _ h _ _ => h
theorem Kept.trans {d c : Addr} {H H1 H2 : Hp} (a : Kept d c H H1) (b : Kept d c H1 H2) : Kept d c H H2 := fun x o h n m => b x o (a x o h n m) n m
theorem Kept.of {d c : Addr} {H H' : Hp} (a : Same H H') : Kept d c H H' := fun x o h _ _ => a x o h
/-- the deck: a list of the cells' list and the count of draws -/
structure Deck (H : Hp) (d c : Addr) (t : Int) : Prop where
  hd : H d = some (.lst [.ref c, .int t])
  hc : ∃ cells : List Int, H c = some (.lst (cells.map V.int)) ∧ (∀ x ∈ cells, 0 ≤ x) ∧ cells.length ≤ 63
  ne : c ≠ d
  t0 : 0 ≤ t
theorem Deck.same {H H' : Hp} {d c : Addr} {t : Int} (D : Deck H d c t) (s : Same H H') : Deck H' d c t := by
  obtain ⟨hd, ⟨cells, h1, h2⟩, n, t0⟩ := D
  exact ⟨s _ _ hd, ⟨cells, s _ _ h1, h2⟩, n, t0⟩
theorem Kept.tup {K : PySem.W.Frag} {d c : Addr} {t : Int} {H H' : Hp} {a : Addr} {xs : List V} (D : Deck H d c t) (e : Kept d c H H') (h : SqT K H a xs) : SqT K H' a xs := by
  obtain ⟨hd, ⟨cells, h1, h2⟩, n, t0⟩ := D
  rcases h with (h | ⟨o, h⟩) | h
  · exact .inl (.inl (e _ _ h (fun z => by subst z; rw [hd] at h; cases h) (fun z => by subst z; rw [h1] at h; cases h)))
  · exact .inl (.inr ⟨o, e _ _ h (fun z => by subst z; rw [hd] at h; cases h) (fun z => by subst z; rw [h1] at h; cases h)⟩)
  · exact .inr h
theorem at_int {xs : List Int} {z : Int} (h0 : 0 ≤ z) (h1 : z < (xs.length : Int)) : ∃ x, x ∈ xs ∧ xs[z.toNat]? = some x ∧ atI (xs.map V.int) z = some (.int x) := by
  have hl : z.toNat < xs.length := by omega
  refine ⟨xs[z.toNat], List.getElem_mem hl, List.getElem?_eq_getElem hl, ?_⟩
  refine at_of (j := z.toNat) (by omega) ?_
  rw [List.getElem?_map, List.getElem?_eq_getElem hl]
  rfl
theorem ix_nat {n : Nat} {z : Int} (h0 : 0 ≤ z) (h1 : z < (n : Int)) : ixN n z = some z.toNat := by
  unfold ixN
  rw [if_pos h0, if_pos h1]
theorem in_ints (i : Int) (xs : List Int) : inV (.int i) (xs.map V.int) = decide (i ∈ xs) := by
  unfold inV
  induction xs with
  | nil => simp
  | cons x r ih =>
    rw [List.map_cons, List.any_cons, ih]
    by_cases e : x = i
    · subst e; simp [eqV]
    · have : ¬ i = x := fun q => e q.symm
      simp [eqV, e, this]
end OC

set_option Elab.async false
set_option linter.all false
set_option maxRecDepth 100000
namespace OC
open PySem PySem.Spec PyProof.Rows L2

/-! ### readings by name -/
def rLenQ (K : PySem.W.Frag) : List V → Hp → VK → Prop := fun xs H Q => ∃ p ys, xs = [.ref p] ∧ (SqL K H p ys ∨ SqT K H p ys) ∧ Q (.int ys.length) H
def rListQ (K : PySem.W.Frag) : List V → Hp → VK → Prop := fun xs H Q => ∃ p ys, xs = [.ref p] ∧ (SqL K H p ys ∨ SqT K H p ys) ∧ ∀ l, H l = none → Q (.ref l) (upd H l (.lst ys))
def rTupQ (K : PySem.W.Frag) : List V → Hp → VK → Prop := fun xs H Q => ∃ p ys, xs = [.ref p] ∧ ((SqL K H p ys ∧ ∀ l, H l = none → Q (.ref l) (upd H l (.tup ys))) ∨ (SqT K H p ys ∧ Q (.ref p) H))
/-! ### data kept -/
mutual
theorem dp_same {K : PySem.W.Frag} {H H' : Hp} (e : Same H H') : ∀ (d : PyData) (v : V), Dp K H v d → Dp K H' v d
  | .none, _, h => by cases h; exact .non
  | .bool b, _, h => by cases h; exact .bl b
  | .int i, _, h => by cases h; exact .int i
  | .str x, _, h => by cases h; exact .str x
  | .list ds, _, h => by
    cases h with
    | lst hs ha => exact .lst (e.seq hs) (dpAll_same e ds _ ha)
  | .tuple ds, _, h => by
    cases h with
    | tup hs ha => exact .tup (Same.tup e hs) (dpAll_same e ds _ ha)
  | .dict _, _, h => by cases h
theorem dpAll_same {K : PySem.W.Frag} {H H' : Hp} (e : Same H H') : ∀ (ds : List PyData) (vs : List V), DpAll K H vs ds → DpAll K H' vs ds
  | [], _, h => by cases h; exact .nil
  | d :: ds, _, h => by
    cases h with
    | cons h1 h2 => exact .cons (dp_same e d _ h1) (dpAll_same e ds _ h2)
end
theorem dpAll_len {K : PySem.W.Frag} {H : Hp} : ∀ {vs : List V} {ds : List PyData}, DpAll K H vs ds → vs.length = ds.length
  | _, _, .nil => rfl
  | _, _, .cons _ t => by rw [List.length_cons, List.length_cons, dpAll_len t]
theorem dpAll_get {K : PySem.W.Frag} {H : Hp} : ∀ {vs : List V} {ds : List PyData} {i : Nat} {v : V}, DpAll K H vs ds → vs[i]? = some v → ∃ d, ds[i]? = some d ∧ d ∈ ds ∧ Dp K H v d
  | _, _, i, v, .nil, e => by simp at e
  | _, _, 0, v, .cons h t, e => by
    have e : _ = v := Option.some.inj e
    subst e
    exact ⟨_, rfl, List.mem_cons_self, h⟩
  | _, _, i + 1, v, .cons h t, e => by
    obtain ⟨d, h1, h2, h3⟩ := dpAll_get (i := i) (v := v) t e
    exact ⟨d, h1, List.mem_cons_of_mem _ h2, h3⟩
theorem dpAll_ints {K : PySem.W.Frag} {H : Hp} : ∀ ns : List Int, DpAll K H (ns.map V.int) (ns.map PyData.int)
  | [] => .nil
  | n :: r => .cons (.int n) (dpAll_ints r)
theorem dpAll_nth {K : PySem.W.Frag} {H : Hp} : ∀ {vs : List V} {ds : List PyData}, vs.length = ds.length → (∀ (i : Nat) (v : V) (d : PyData), vs[i]? = some v → ds[i]? = some d → Dp K H v d) → DpAll K H vs ds
  | [], [], _, _ => .nil
  | [], _ :: _, e, _ => by cases e
  | _ :: _, [], e, _ => by cases e
  | v :: vs, d :: ds, e, h => .cons (h 0 v d rfl rfl) (dpAll_nth (Nat.succ.inj e) fun i v d h1 h2 => h (i + 1) v d h1 h2)

/-! ### any thing, with dicts: its kind -/
def keyD : Key → PyData
  | .inl i => .int i
  | .inr x => .str x
def flD : V → PyData
  | .bl b => .bool b | .int i => .int i | .str x => .str x | _ => .none
def flOk : V → Bool
  | .non => true | .bl _ => true | .int _ => true | .str _ => true | _ => false
mutual
inductive Rep (K : PySem.W.Frag) (H : Hp) (bad : Addr → Prop) : V → PyData → Prop
  | non : Rep K H bad .non .none
  | bl (b : Bool) : Rep K H bad (.bl b) (.bool b)
  | int (i : Int) : Rep K H bad (.int i) (.int i)
  | str (x : Str) : Rep K H bad (.str x) (.str x)
  | lst {a : Addr} {xs : List V} {ds : List PyData} : H a = some (.lst xs) → ¬ bad a → RepAll K H bad xs ds → Rep K H bad (.ref a) (.list ds)
  | tup {a : Addr} {xs : List V} {ds : List PyData} : SqT K H a xs → RepAll K H bad xs ds → Rep K H bad (.ref a) (.tuple ds)
  | dct {a : Addr} {kvs : List (Key × V)} : H a = some (.dK kvs) → (kvs.all fun p => flOk p.2) = true → Rep K H bad (.ref a) (.dict (kvs.map fun p => (keyD p.1, flD p.2)))
inductive RepAll (K : PySem.W.Frag) (H : Hp) (bad : Addr → Prop) : List V → List PyData → Prop
  | nil : RepAll K H bad [] []
  | cons {v : V} {vs : List V} {d : PyData} {ds : List PyData} : Rep K H bad v d → RepAll K H bad vs ds → RepAll K H bad (v :: vs) (d :: ds)
end
def kdOf : PyData → Kd
  | .none => .non | .bool _ => .bl | .int _ => .int | .str _ => .str | .list _ => .lst | .tuple _ => .tup | .dict _ => .dct
section
variable {K : PySem.W.Frag} {H : Hp} {bad : Addr → Prop}
theorem Rep.kd : ∀ {v : V} {d : PyData}, Rep K H bad v d → KdOf K H v (kdOf d)
  | _, _, .non => kd_non
  | _, _, .bl b => kd_bl b
  | _, _, .int i => kd_int i
  | _, _, .str x => kd_str x
  | _, _, .lst h _ _ => kd_lst (.inl (.inl h))
  | _, _, .tup h _ => kd_tup h
  | _, _, .dct h _ => kd_dct h
theorem repAll_len : ∀ {vs : List V} {ds : List PyData}, RepAll K H bad vs ds → vs.length = ds.length
  | _, _, .nil => rfl
  | _, _, .cons _ t => by rw [List.length_cons, List.length_cons, repAll_len t]
theorem repAll_get : ∀ {vs : List V} {ds : List PyData} {i : Nat} {v : V}, RepAll K H bad vs ds → vs[i]? = some v → ∃ d, ds[i]? = some d ∧ d ∈ ds ∧ Rep K H bad v d
  | _, _, i, v, .nil, e => by simp at e
  | _, _, 0, v, .cons h t, e => by
    have e : _ = v := Option.some.inj e
    subst e
    exact ⟨_, rfl, List.mem_cons_self, h⟩
  | _, _, i + 1, v, .cons h t, e => by
    obtain ⟨d, h1, h2, h3⟩ := repAll_get (i := i) (v := v) t e
    exact ⟨d, h1, List.mem_cons_of_mem _ h2, h3⟩
theorem repAll_append : ∀ {xs ys : List V} {ds es : List PyData}, RepAll K H bad xs ds → RepAll K H bad ys es → RepAll K H bad (xs ++ ys) (ds ++ es)
  | _, _, _, _, .nil, h => h
  | _, _, _, _, .cons h t, g => .cons h (repAll_append t g)
theorem repAll_ints : ∀ ns : List Int, RepAll K H bad (ns.map V.int) (ns.map PyData.int)
  | [] => .nil
  | n :: r => .cons (.int n) (repAll_ints r)
end
/-! ### tuples stay -/
def Tk (H H' : Hp) : Prop := ∀ (K : PySem.W.Frag) (a : Addr) (xs : List V), SqT K H a xs → SqT K H' a xs
theorem Tk.refl (H : Hp) : Tk H H := fun _ _ _ h => h
theorem Tk.trans {H H1 H2 : Hp} (a : Tk H H1) (b : Tk H1 H2) : Tk H H2 := fun K x xs h => b K x xs (a K x xs h)
theorem Tk.of {H H' : Hp} (s : Same H H') : Tk H H' := fun _ _ _ h => Same.tup s h
theorem Tk.kept {d c : Addr} {t : Int} {H H' : Hp} (D : Deck H d c t) (k : Kept d c H H') : Tk H H' := fun _ _ _ h => Kept.tup D k h
theorem Tk.mut {H H' : Hp} {D : Addr} {xs ys : List V} (k : Tk H H') (h : H' D = some (.lst xs)) : Tk H (upd H' D (.lst ys)) := fun K a zs q => by
  rcases k K a zs q with (q | ⟨o, q⟩) | q
  · refine .inl (.inl ?_)
    rw [upd_ne (fun z => by subst z; rw [h] at q; cases q)]
    exact q
  · refine .inl (.inr ⟨o, ?_⟩)
    rw [upd_ne (fun z => by subst z; rw [h] at q; cases q)]
    exact q
  · exact .inr q
theorem Tk.new {H H' : Hp} {D : Addr} {o : HO} (k : Tk H H') (h : H' D = none) : Tk H (upd H' D o) := k.trans (Tk.of (same_upd h))
/-- what stays of things: tuples and dicts all, lists but the bad ones -/
structure Stays (bad : Addr → Prop) (H H' : Hp) : Prop where
  t : Tk H H'
  d : ∀ a kvs, H a = some (.dK kvs) → H' a = some (.dK kvs)
  l : ∀ a xs, H a = some (.lst xs) → ¬ bad a → H' a = some (.lst xs)
theorem Stays.of {bad : Addr → Prop} {H H' : Hp} (s : Same H H') : Stays bad H H' := ⟨Tk.of s, fun _ _ h => s _ _ h, fun _ _ h _ => s _ _ h⟩
theorem Stays.trans {bad : Addr → Prop} {H H1 H2 : Hp} (a : Stays bad H H1) (b : Stays bad H1 H2) : Stays bad H H2 := ⟨a.t.trans b.t, fun x y h => b.d x y (a.d x y h), fun x y h n => b.l x y (a.l x y h n) n⟩
theorem Stays.kept {d c : Addr} {t : Int} {H H' : Hp} (D : Deck H d c t) (k : Kept d c H H') : Stays (fun a => a = d ∨ a = c) H H' := by
  refine ⟨Tk.kept D k, fun a xs h => k a _ h (fun z => ?_) (fun z => ?_), fun a xs h nb => k a _ h (fun z => nb (.inl z)) (fun z => nb (.inr z))⟩
  · subst z; rw [D.hd] at h; cases h
  · obtain ⟨cells, h1, _⟩ := D.hc
    subst z; rw [h1] at h; cases h
mutual
theorem rep_stays {K : PySem.W.Frag} {bad : Addr → Prop} {H H' : Hp} (e : Stays bad H H') : ∀ (d : PyData) (v : V), Rep K H bad v d → Rep K H' bad v d
  | .none, _, h => by cases h; exact .non
  | .bool b, _, h => by cases h; exact .bl b
  | .int i, _, h => by cases h; exact .int i
  | .str x, _, h => by cases h; exact .str x
  | .list ds, _, h => by
    cases h with
    | lst hs hb ha => exact .lst (e.l _ _ hs hb) hb (repAll_stays e ds _ ha)
  | .tuple ds, _, h => by
    cases h with
    | tup hs ha => exact .tup (e.t _ _ _ hs) (repAll_stays e ds _ ha)
  | .dict _, _, h => by
    cases h with
    | dct hs hf => exact .dct (e.d _ _ hs) hf
theorem repAll_stays {K : PySem.W.Frag} {bad : Addr → Prop} {H H' : Hp} (e : Stays bad H H') : ∀ (ds : List PyData) (vs : List V), RepAll K H bad vs ds → RepAll K H' bad vs ds
  | [], _, h => by cases h; exact .nil
  | d :: ds, _, h => by
    cases h with
    | cons h1 h2 => exact .cons (rep_stays e d _ h1) (repAll_stays e ds _ h2)
end

/-! ### zip of two tuples, walked -/
theorem walk_zipT {K : PySem.W.Frag} {a b : Addr} {xs ys : List V} {n : Nat} (hn : n = min xs.length ys.length) : Walk (RZ.ItzT K a b) n (fun H => SqT K H a xs ∧ SqT K H b ys) (YPair (fun i => xs[i]?) (fun i => ys[i]?)) where
  goes i H hi q := by
    have hx : i < xs.length := by rw [hn] at hi; exact Nat.lt_of_lt_of_le hi (Nat.min_le_left _ _)
    have hy : i < ys.length := by rw [hn] at hi; exact Nat.lt_of_lt_of_le hi (Nat.min_le_right _ _)
    exact ⟨xs, ys, _, _, q.1, q.2, List.getElem?_eq_getElem hx, List.getElem?_eq_getElem hy⟩
  stops H q := ⟨xs, ys, q.1, q.2, by rw [hn]; omega⟩
  yields i H v H' _ q y := by
    obtain ⟨T, x, z, ev, nT, eH, gx, gz⟩ := y
    exact ⟨T, x, z, ev, nT, eH, gx xs q.1, gz ys q.2⟩

/-! ### the same: two things of one data -/
/-- a thing that is no tuple -/
def Sc : PyData → Prop
  | .none => True | .bool _ => True | .int _ => True | .str _ => True | _ => False
def Lv (L : PyData → Prop) (d : PyData) : Prop := Sc d ∨ ∃ ds, d = .tuple ds ∧ ds.length ≤ 1000 ∧ ∀ x ∈ ds, L x
def sp_same (K : PySem.W.Frag) (L : PyData → Prop) : Sp := fun vs H Q _ => ∃ (v u : V) (d : PyData), vs = [v, u] ∧ Dp K H v d ∧ Dp K H u d ∧ L d ∧ ∀ H', Same H H' → Q (.bl true) H'
/-- no call of it is promised anything -/
theorem ok_never {P : Program} {w : World} {K : PySem.W.Frag} {mg : Str → Option Value} {base : Heap} {x : Str} {st : Stmt} {N ps : List Str} (D : Df K mg x st ps) (S : FnScope N ps (defScope st)) (L : PyData → Prop) (hL : ∀ d, ¬ L d) (hp : ps.length = 2) : Ok P w K mg base 1 x ps (sp_same K L) :=
  D.ok S (fun vs H Q E h => by obtain ⟨v, u, d, rfl, _⟩ := h; exact hp.symm) fun f cdv A outer s H vs Q E hr h => by
    obtain ⟨v, u, d, _, _, _, h, _⟩ := h
    exact (hL d h).elim
/-- the kind of data -/
theorem dp_kd {K : PySem.W.Frag} {H : Hp} : ∀ {v : V} {d : PyData}, Dp K H v d → KdOf K H v (kdOf d)
  | _, _, .non => kd_non
  | _, _, .bl b => kd_bl b
  | _, _, .int i => kd_int i
  | _, _, .str x => kd_str x
  | _, _, .lst h _ => kd_lst h
  | _, _, .tup h _ => kd_tup h
end OC

set_option Elab.async false
set_option linter.all false
set_option maxRecDepth 100000
set_option maxHeartbeats 2000000
namespace OC
open PySem PySem.Spec PyProof.Rows L2
/-! ### a tuple taken once is itself -/
theorem tuple_mul1 (l : Addr) (its : Array Value) (m : Nat) (od : Option Addr) (so : Array (Option Value)) (u : Tok) :
    Meets (Builtin.«tuple.__mul__» ⟨[.ref l, .int 1 u], []⟩) (fun _ R s => s.heap.get? l = some { cls := .type "tuple", dict := od, data := .seq its m, slots := so } ∧ R (.ok (.ret (Value.ref l))) s) := by
  refine .of_wp fun prog w A R s hh => ?_
  obtain ⟨hp, g, d, tk, os⟩ := s
  obtain ⟨hl, hR⟩ := hh
  have fi := AutoSeq1.idx_int
  have c0 : (decide ((1 : Int) < -(2 ^ 63)) || decide ((1 : Int) ≥ 2 ^ 63)) = false := by decide
  have c1 : (its.isEmpty || (1 : Int) == 1) = true := by simp
  wp_walk using wpAny_loadPart' hl
  exact ⟨_, rfl, hR⟩
/-- t * n: a new tuple, or for n = 1 the same -/
def rRepA (K : PySem.W.Frag) : R2 := fun x y H Q => ∃ l k xs, x = .ref l ∧ y = .int k ∧ SqT K H l xs ∧ xs ≠ [] ∧ 1 ≤ k ∧ k ≤ 1000 ∧ xs.length ≤ 1000 ∧ (k = 1 → Q (.ref l) H) ∧ (2 ≤ k → ∀ p, H p = none → Q (.ref p) (upd H p (.tup (List.replicate k.toNat xs).flatten)))
theorem op_repA {X : Cx} : OpR X (binaryOp .Mult) (rRepA X.K) := by
  intro pins s σ H x y v u Q I rx ry h
  obtain ⟨l, k, xs, ex, ey, hT, hne, h1, h2, hz, q1, q2⟩ := h
  by_cases hk : k = 1
  · subst hk ex ey
    have q := q1 rfl
    cases rx
    obtain ⟨t, rfl⟩ := ry
    obtain ⟨its, r, ⟨⟨cls, dd, data, sl⟩, ho, hc, n, hd⟩, hs⟩ := I.tuple hT
    simp only at hc hd
    subst hc hd
    refine wpAny_binaryOp_repeat_ref (T := "tuple") (U := "int") (by decide) ⟨_, ho, rfl⟩ (fun s' => typeIs_int s' 1 t) noFill_tuple_mul F.fills_int_mul F.slot_int_rmul repeat_tuple F.slot_int_index.lookup ?_
    refine call_meets F.slot_int_rmul (typeIs_int s 1 t) F.entry_int_rmul (F.args_int_rmul_2 _ _) (int_rmul_tuple 1 t l its.toArray n dd sl) ⟨ho, rfl, ⟨_, ho, rfl⟩, ?_⟩
    exact call_meets F.slot_tuple_mul ⟨_, ho, rfl⟩ F.entry_tuple_mul (F.args_tuple_mul_2 _ _) (tuple_mul1 l its.toArray n dd sl t) ⟨ho, .ref l, H, I, rfl, q⟩
  · exact op_repT pins s σ H x y v u Q I rx ry ⟨l, k, xs, ex, ey, hT, hne, by omega, h2, hz, q2 (by omega)⟩
/-- the same, whichever tuple it is -/
def rRepB (K : PySem.W.Frag) : R2 := fun x y H Q => ∃ l k xs, x = .ref l ∧ y = .int k ∧ SqT K H l xs ∧ xs ≠ [] ∧ 1 ≤ k ∧ k ≤ 1000 ∧ xs.length ≤ 1000 ∧ ∀ p H', Same H H' → SqT K H' p (List.replicate k.toNat xs).flatten → Q (.ref p) H'
theorem op_repB {X : Cx} : OpR X (binaryOp .Mult) (rRepB X.K) := by
  intro pins s σ H x y v u Q I rx ry h
  obtain ⟨l, k, xs, ex, ey, hT, hne, h1, h2, hz, q⟩ := h
  refine op_repA pins s σ H x y v u Q I rx ry ⟨l, k, xs, ex, ey, hT, hne, h1, h2, hz, fun hk => q l H (Same.refl H) ?_, fun _ p np => q p _ (same_upd np) (.inl (.inl upd_same))⟩
  subst hk
  rw [show ((1 : Int).toNat) = 1 from rfl, List.replicate_one, List.flatten_cons, List.flatten_nil, List.append_nil]
  exact hT
theorem rep_int (n : Nat) (x : Int) : (List.replicate n [V.int x]).flatten = (List.replicate n x).map V.int := by
  induction n with
  | zero => rfl
  | succ n ih => rw [List.replicate_succ, List.flatten_cons, ih, List.replicate_succ]; rfl
end OC

set_option Elab.async false
set_option linter.all false
set_option maxRecDepth 100000
namespace OC
open PySem PySem.Spec PyProof.Rows L2

theorem new_of {H H' : Hp} {p : Addr} {o : HO} (h : upd H p o = H') (n : H p = none) : Same H H' ∧ H' p = some o := by
  subst h
  exact ⟨same_upd n, upd_same⟩
theorem sz1000 {n : Nat} (h : n ≤ 1000) : n ≤ sizeLine := Nat.le_of_lt (small1000 h)

mutual
def noL : PyData → Bool
  | .none => true | .bool _ => true | .int _ => true | .str _ => true | .list _ => false | .tuple ds => noLAll ds | .dict _ => false
def noLAll : List PyData → Bool
  | [] => true
  | d :: ds => noL d && noLAll ds
end
mutual
theorem dp_tk {K : PySem.W.Frag} {H H' : Hp} (e : Tk H H') : ∀ (d : PyData) (v : V), noL d = true → Dp K H v d → Dp K H' v d
  | .none, _, _, h => by cases h; exact .non
  | .bool b, _, _, h => by cases h; exact .bl b
  | .int i, _, _, h => by cases h; exact .int i
  | .str x, _, _, h => by cases h; exact .str x
  | .list ds, _, n, h => by simp [noL] at n
  | .tuple ds, _, n, h => by
    cases h with
    | tup hs ha => exact .tup (e K _ _ hs) (dpAll_tk e ds _ (by simpa [noL] using n) ha)
  | .dict _, _, _, h => by cases h
theorem dpAll_tk {K : PySem.W.Frag} {H H' : Hp} (e : Tk H H') : ∀ (ds : List PyData) (vs : List V), noLAll ds = true → DpAll K H vs ds → DpAll K H' vs ds
  | [], _, _, h => by cases h; exact .nil
  | d :: ds, _, n, h => by
    have n' : noL d = true ∧ noLAll ds = true := by simpa [noLAll] using n
    cases h with
    | cons h1 h2 => exact .cons (dp_tk e d _ n'.1 h1) (dpAll_tk e ds _ n'.2 h2)
end
/-! ### rows as data -/
def rowD (r : List Int) : PyData := .tuple (r.map PyData.int)
theorem noL_ints : ∀ r : List Int, noLAll (r.map PyData.int) = true
  | [] => by simp [noLAll]
  | n :: r => by simp [noLAll, noL, noL_ints r]
theorem noL_row (r : List Int) : noL (rowD r) = true := by
  unfold rowD
  rw [noL]
  exact noL_ints r
theorem noL_rows : ∀ rs : List (List Int), noLAll (rs.map rowD) = true
  | [] => by simp [noLAll]
  | r :: rs => by simp [noLAll, noL_row, noL_rows rs]
theorem lay_ints : ∀ ns : List Int, PyData.canLayAll0 (ns.map PyData.int) = true
  | [] => by simp only [List.map_nil, PyData.canLayAll0]
  | n :: r => by simp only [List.map_cons, PyData.canLayAll0, PyData.canLay0, lay_ints r, Bool.and_self]
theorem depth_ints : ∀ ns : List Int, PyData.depthAll (ns.map PyData.int) = 0
  | [] => by simp only [List.map_nil, PyData.depthAll]
  | n :: r => by simp only [List.map_cons, PyData.depthAll, PyData.depth, depth_ints r, Nat.max_self]
theorem lay_rows : ∀ rs : List (List Int), PyData.canLayAll0 (rs.map rowD) = true
  | [] => by simp only [List.map_nil, PyData.canLayAll0]
  | r :: rs => by simp only [List.map_cons, PyData.canLayAll0, rowD, PyData.canLay0, lay_ints r, lay_rows rs, Bool.and_self]
theorem depth_rows : ∀ rs : List (List Int), PyData.depthAll (rs.map rowD) ≤ 1
  | [] => by simp only [List.map_nil, PyData.depthAll]; omega
  | r :: rs => by
    have := depth_rows rs
    simp only [List.map_cons, PyData.depthAll, rowD, PyData.depth, depth_ints r]
    omega
theorem shaped_ints (ns : List Int) : SeqAt.shaped (.list (ns.map PyData.int)) = true := by
  unfold SeqAt.shaped
  simp only [PyData.canLay0, lay_ints, PyData.depth, depth_ints, Bool.true_and]
  rfl
theorem shaped_row (ns : List Int) : SeqAt.shaped (rowD ns) = true := by
  unfold SeqAt.shaped rowD
  simp only [PyData.canLay0, lay_ints, PyData.depth, depth_ints, Bool.true_and]
  rfl
theorem shaped_lrows (rs : List (List Int)) : SeqAt.shaped (.list (rs.map rowD)) = true := by
  unfold SeqAt.shaped
  have := depth_rows rs
  simp only [PyData.canLay0, lay_rows, PyData.depth, Bool.true_and]
  exact decide_eq_true (by omega)
theorem shaped_trows (rs : List (List Int)) : SeqAt.shaped (.tuple (rs.map rowD)) = true := by
  unfold SeqAt.shaped
  have := depth_rows rs
  simp only [PyData.canLay0, lay_rows, PyData.depth, Bool.true_and]
  exact decide_eq_true (by omega)
theorem eqv_nil (ds : List PyData) : PyData.eqv (.list ds) (.list []) = decide (ds = []) := by
  cases ds with
  | nil => simp [PyData.eqv, PyData.eqvAll]
  | cons n r => simp [PyData.eqv, PyData.eqvAll]
theorem dpAll_int_inv {K : PySem.W.Frag} {H : Hp} : ∀ {xs : List V} {r : List Int}, DpAll K H xs (r.map PyData.int) → xs = r.map V.int
  | _, [], h => by cases h; rfl
  | _, n :: r, h => by
    cases h with
    | cons h1 h2 =>
      cases h1
      rw [dpAll_int_inv h2]
      rfl
theorem dp_row {K : PySem.W.Frag} {H : Hp} {v : V} {r : List Int} (h : Dp K H v (rowD r)) : ∃ a, v = .ref a ∧ SqT K H a (r.map V.int) := by
  unfold rowD at h
  cases h with
  | tup hs ha => exact ⟨_, rfl, (dpAll_int_inv ha) ▸ hs⟩
theorem row_dp {K : PySem.W.Frag} {H : Hp} {a : Addr} {r : List Int} (h : SqT K H a (r.map V.int)) : Dp K H (.ref a) (rowD r) := .tup h (dpAll_ints r)
theorem dpAll_append {K : PySem.W.Frag} {H : Hp} : ∀ {xs ys : List V} {ds es : List PyData}, DpAll K H xs ds → DpAll K H ys es → DpAll K H (xs ++ ys) (ds ++ es)
  | _, _, _, _, .nil, h => h
  | _, _, _, _, .cons h t, g => .cons h (dpAll_append t g)
theorem dpAll_row {K : PySem.W.Frag} {H : Hp} {vs : List V} {rs : List (List Int)} {i : Nat} {v : V} (h : DpAll K H vs (rs.map rowD)) (e : vs[i]? = some v) : ∃ a r, v = .ref a ∧ rs[i]? = some r ∧ r ∈ rs ∧ SqT K H a (r.map V.int) := by
  obtain ⟨d, g, _, hd⟩ := dpAll_get h e
  rw [List.getElem?_map] at g
  cases hr : rs[i]? with
  | none => rw [hr] at g; cases g
  | some r =>
    rw [hr] at g
    have ed : d = rowD r := (Option.some.inj g).symm
    subst ed
    obtain ⟨a, rfl, ha⟩ := dp_row hd
    exact ⟨a, r, rfl, rfl, List.mem_of_getElem? hr, ha⟩
/-- rests below p -/
def RowOk (p : Int) (r : List Int) : Prop := ∀ x ∈ r, 0 ≤ x ∧ x < p

/-! ### comprehensions of ints -/
def LcGoal (J : It) (g : TG) (tt : TT) (te : TE) (vs : List Nat) (σ : L2.St) (H : Hp) (Qd : Addr → Hp → Prop) : Prop := ∀ D, H D = none → ∃ W : Nat → Nat → Hp → Prop, (∃ m, W 0 m (upd H D (.lst []))) ∧ ∀ i m H, W i m H →
  (J.stop i H ∧ Qd D H) ∨ (J.go i H ∧ ∃ Nx : Hp → Prop, (∀ H', Nx H' → ∃ m', m' < m ∧ W (i + 1) m' H') ∧ ∀ x H', J.yld i H x H' → g x (wipe σ vs) H' fun σ2 H2 => wipe σ2 vs = wipe σ vs ∧ tt σ2 H2 fun b H3 =>
    if b = true then te σ2 H3 fun y H4 => ∃ acc, H4 D = some (.lst acc) ∧ acc.length < sizeLine ∧ Nx (upd H4 D (.lst (acc ++ [y]))) else Nx H3)
theorem lc_zipI {K : PySem.W.Frag} {a b : Addr} {xs ys : List Int} {σ : L2.St} {H : Hp} {Qd : Addr → Hp → Prop} {i j : Nat} {vs : List Nat} {te : TE} (f : Int → Int → Int) (hA : SqT K H a (xs.map V.int)) (hB : SqT K H b (ys.map V.int)) (hz : xs.length ≤ 1000)
    (hw : ∀ x y : Option V, wipe (((wipe σ vs).set i x).set j y) vs = wipe σ vs)
    (hte : ∀ (x y : Int) (H' : Hp) (Q' : VK), x ∈ xs → y ∈ ys → Same H H' → Q' (.int (f x y)) H' → te (((wipe σ vs).set i (some (.int x))).set j (some (.int y))) H' Q')
    (hd : ∀ D H', Same H H' → H D = none → H' D = some (.lst ((List.zipWith f xs ys).map V.int)) → Qd D H') :
    LcGoal (RZ.ItzT K a b) (gTup K 2 (gCons (gName i) (gCons (gName j) gNil))) tYes te vs σ H Qd := by
  intro D nD
  refine lc_it (walk_zipT (K := K) (a := a) (b := b) (xs := xs.map V.int) (ys := ys.map V.int) rfl) (fun k H' => Same H H' ∧ H' D = some (.lst (((List.zipWith f xs ys).take k).map V.int))) ⟨same_mut (Same.refl H) nD, upd_same⟩ (fun k H' _ hP => ⟨Same.tup hP.1 hA, Same.tup hP.1 hB⟩) (fun k x H1 H2 hk hP hY => ?_) (fun H' hP => hd D H' hP.1 nD ?_)
  · obtain ⟨Ta, x1, y1, rfl, nT, rfl, e1, e2⟩ := hY
    obtain ⟨sm, eD⟩ := hP
    have sT : Same H1 (upd H1 Ta (.tup [x1, y1])) := same_upd nT
    have e1 : (xs.map V.int)[k]? = some x1 := e1
    have e2 : (ys.map V.int)[k]? = some y1 := e2
    rw [List.getElem?_map] at e1 e2
    cases h1 : xs[k]? with
    | none => rw [h1] at e1; cases e1
    | some z1 =>
      cases h2 : ys[k]? with
      | none => rw [h2] at e2; cases e2
      | some z2 =>
        rw [h1] at e1
        rw [h2] at e2
        have q1 : x1 = V.int z1 := (Option.some.inj e1).symm
        have q2 : y1 = V.int z2 := (Option.some.inj e2).symm
        subst q1 q2
        refine ⟨Ta, [.int z1, .int z2], rfl, .inl (.inl upd_same), rfl, .int z1, [.int z2], rfl, .int z2, [], rfl, rfl, hw _ _, ?_⟩
        refine hte z1 z2 _ _ (List.mem_of_getElem? h1) (List.mem_of_getElem? h2) (sm.trans sT) ⟨_, sT _ _ eD, ?_, same_mut (sm.trans sT) nD, ?_⟩
        · rw [List.length_map, List.length_take, List.length_zipWith]
          exact small1000 (by omega)
        · rw [upd_same, List.take_add_one, List.getElem?_zipWith, h1, h2, List.map_append]
          rfl
  · obtain ⟨sm, eD⟩ := hP
    rw [eD, List.take_of_length_le]
    rw [List.length_zipWith, List.length_map, List.length_map]
    exact Nat.le_refl _
theorem lc_tupI {K : PySem.W.Frag} {a : Addr} {xs : List Int} {σ : L2.St} {H : Hp} {Qd : Addr → Hp → Prop} {i : Nat} {vs : List Nat} {te : TE} (f : Int → Int) (hA : SqT K H a (xs.map V.int)) (hz : xs.length ≤ 1000)
    (hw : ∀ x : Option V, wipe ((wipe σ vs).set i x) vs = wipe σ vs)
    (hte : ∀ (x : Int) (H' : Hp) (Q' : VK), x ∈ xs → Same H H' → Q' (.int (f x)) H' → te ((wipe σ vs).set i (some (.int x))) H' Q')
    (hd : ∀ D H', Same H H' → H D = none → H' D = some (.lst ((xs.map f).map V.int)) → Qd D H') :
    LcGoal (Itt K a) (gName i) tYes te vs σ H Qd := by
  intro D nD
  refine lc_it (walk_tup (K := K) (a := a) (xs := xs.map V.int)) (fun k H' => Same H H' ∧ H' D = some (.lst (((xs.map f).take k).map V.int))) ⟨same_mut (Same.refl H) nD, upd_same⟩ (fun k H' _ hP => Same.tup hP.1 hA) (fun k x H1 H2 hk hP hY => ?_) (fun H' hP => hd D H' hP.1 nD ?_)
  · obtain ⟨rfl, e1⟩ := hY
    obtain ⟨sm, eD⟩ := hP
    rw [List.getElem?_map] at e1
    cases h1 : xs[k]? with
    | none => rw [h1] at e1; cases e1
    | some z1 =>
      rw [h1] at e1
      have q1 : x = V.int z1 := (Option.some.inj e1).symm
      subst q1
      refine ⟨hw _, hte z1 _ _ (List.mem_of_getElem? h1) sm ⟨_, eD, ?_, same_mut sm nD, ?_⟩⟩
      · rw [List.length_map, List.length_take, List.length_map]
        exact small1000 (by omega)
      · rw [upd_same, List.take_add_one, List.getElem?_map, h1, List.map_append]
        rfl
  · obtain ⟨sm, eD⟩ := hP
    rw [eD, List.take_of_length_le]
    rw [List.length_map, List.length_map]
    exact Nat.le_refl _
end OC

set_option Elab.async false
set_option linter.all false
set_option maxRecDepth 100000
set_option maxHeartbeats 2000000
/-! defs that are called while no repr is under way (A.guards = some []): the layer's promise with that one fact more -/
namespace OC
open PySem PySem.Spec PyProof.Rows L2
structure FnG (P : Program) (w : World) (K : PySem.W.Frag) (mg : Str → Option Value) (base : Heap) (CX : CXT) (k : Nat)
    (f : Addr) (fd : FuncData) (ps : List Str) (sp : Sp) : Prop where
  len : ∀ vs H Q E, sp vs H Q E → vs.length = ps.length
  go : ∀ (A : Around) (outer : List Env) (s : Shared) (H : Hp) (args : Args) (us : List Value) (vs : List V) (Q : VK) (E : XK),
    Room k A → A.guards = some [] → Env0 P w K mg base A outer s H → BindsTo s fd args (ps.zip us) → Vals vs us → sp vs H Q E →
    codeAny (model P w) A (.call (.ref f) args) (CR CX outer P w H s Q E) s
section
variable {P : Program} {w : World} {K : PySem.W.Frag} {mg : Str → Option Value} {base : Heap} {CX : CXT} {k : Nat} {f : Addr} {fd : FuncData} {ps : List Str} {sp : Sp}
theorem FnG.of (F : FnOk P w K mg base CX k f fd ps sp) : FnG P w K mg base CX k f fd ps sp :=
  ⟨F.len, fun A outer s H args us vs Q E hr _ => F.run A outer s H args us vs Q E hr⟩
theorem FnG.mono {j : Nat} (F : FnG P w K mg base CX j f fd ps sp) (h : j ≤ k) : FnG P w K mg base CX k f fd ps sp :=
  ⟨F.len, fun A outer s H args us vs Q E hr => F.go A outer s H args us vs Q E (hr.mono h)⟩
end
/-- from the body, where no repr is under way -/
theorem fnG_of {CX : CXT} {P : Program} {w : World} {K : PySem.W.Frag} {mg : Str → Option Value} {base : Heap} {k : Nat} {f : Addr}
    {nm ql : Str} {pr : Arguments} {bd : List Stmt} {sc : Scope} {dV kV doc pm cdv ct oc : Value} {an od : Option Addr}
    {osl : Array (Option Value)} {N ps : List Str} {sp : Sp}
    (lk : K.lookup f = some ⟨oc, od, .func (PySem.W.fnOf nm ql pr bd sc dV kV doc pm an cdv ct), osl⟩)
    (hcd : PySem.W.codeIn K cdv ql = true) (S : FnScope N ps sc)
    (len : ∀ vs H Q E, sp vs H Q E → vs.length = ps.length)
    (hbody : ∀ (A : Around) (outer : List Env) (s : Shared) (H : Hp) (vs : List V) (Q : VK) (E : XK),
      Room k (A.deeper (envOfC ql sc s.heap.objs.size f cdv)) → A.guards = some [] → sp vs H Q E →
      ∃ t, PSs (cxOf CX P w K mg base N ql sc f cdv A outer s H E) bd t ∧ t { nx := fun _ H' => Q .non H', rt := Q } (start N vs) H) :
    FnG P w K mg base CX (k + 1) f (PySem.W.fnOf nm ql pr bd sc dV kV doc pm an cdv ct) ps sp where
  len := len
  go A outer s H args us vs Q E hr hgd e0 hb r hsp := by
    have same : ∀ b o, base.get? b = some o → s.heap.get? b = some o := fun b o e => (e0.bs b o e).1
    have inK : K.In s.heap := e0.mod.kin.keeps same
    have noLim : s.heap.NoLimit := e0.mod.nolimit.keeps same
    have kinds : ∀ y ∈ ps.zip us, sc.names.lookup y.1 = some .local ∨
        (sc.names.lookup y.1 = some .cell ∧ ((cellsFrom (s.heap.objs.size + 1) sc.names []).lookup y.1).isSome = true) := by
      rintro ⟨n, v⟩ hy
      exact (S.par n (List.of_mem_zip hy).1).imp id fun q => ⟨q, PySem.W.cellsFrom_some _ _ _ (.inl q)⟩
    apply codeAny_call_function hr.depth (inK _ _ lk) rfl S.co S.gen rfl (PySem.W.codeRec_of inK hcd)
    apply hb
    apply wpAny_newFunctionEnv_cells S.kind kinds
    intro env he s1 x
    cases he
    refine ⟨noLim.keeps x.toInCall.keep, codeAny_func ?_⟩
    obtain ⟨t, ht, hq⟩ := hbody A outer s H vs Q E (hr.deeper _) hgd hsp
    have I0 := inv_start (CX := CX) (P := P) (w := w) (E := E) S hr.hd e0 (len _ _ _ _ hsp) r x
    have ran := ht.run [] s1 (start N vs) H _ I0 hq
    apply wpAny_mono ran
    · intro fl s' hs
      rcases fl with _ | _ | _ | u
      all_goals first
        | (obtain ⟨v, σ', H', J, rv, q⟩ := hs; exact ⟨v, H', J.os, J.bare, J.base, J.hok, rv, q⟩)
        | (obtain ⟨σ', H', J, q⟩ := hs; exact ⟨V.non, H', J.os, J.bare, J.base, J.hok, rfl, q⟩)
        | (obtain ⟨_, _, _, q⟩ := hs; exact q.elim)
    · exact fun e s' hs => hs
section
variable {X : Cx} {CX : CXT} {k : Nat} {f : Addr} {fd : FuncData} {ps : List Str} {sp : Sp} {E : XK}
theorem runG {pins : List (Addr × Obj)} {σ : L2.St} {H : Hp} {s : Shared} {Q : VK} {us : List Value} {vs : List V}
    (F : FnG X.prog X.w X.K X.mg X.base CX k f fd ps sp) (hr : Room k X.A) (hgd : X.A.guards = some []) (hb : Binds X.K fd ps []) (hx : Passes CX X E)
    (I : Inv X pins σ H s) (r : Vals vs us) (h : sp vs H Q E) : wpAny (model X.prog X.w) X.A (call (.ref f) us) (EP X pins σ Q) X.xe s := by
  have hl : us.length = ps.length := r.length.symm.trans (F.len _ _ _ _ h)
  have hb' := hb s us I.kIn (by rw [List.append_nil]; exact hl)
  rw [List.append_nil] at hb'
  have run := F.go X.A X.stack s H ⟨us, []⟩ us vs Q E hr hgd I.env0 hb' r h
  apply wpAny_call
  apply codeAny_mono run
  intro res s' hq
  rcases res with e | fl
  · exact hx pins σ H s e s' I hq
  · rcases fl with _ | _ | _ | u
    all_goals first
      | exact I.after hq
      | exact (show False from hq).elim
end
/-! ### by name -/
structure OkG (P : Program) (w : World) (K : PySem.W.Frag) (mg : Str → Option Value) (base : Heap) (k : Nat) (x : Str) (ps : List Str) (sp : Sp) : Prop where
  ex : ∃ (f : Addr) (fd : FuncData), FnG P w K mg base CX0 k f fd ps sp ∧ mg x = some (.ref f) ∧ PySem.W.keepIn K (.ref f) = true ∧ Binds K fd ps []
section
variable {P : Program} {w : World} {K : PySem.W.Frag} {mg : Str → Option Value} {base : Heap}
theorem Ok.toG {x : Str} {ps : List Str} {k : Nat} {sp : Sp} (O : Ok P w K mg base k x ps sp) : OkG P w K mg base k x ps sp := by
  obtain ⟨f, fd, F, r⟩ := O.ex
  exact ⟨f, fd, .of F, r⟩
theorem funG {x : Str} {st : Stmt} {f : Addr} {fd : FuncData} {N ps : List Str} {k : Nat} {sp : Sp} (F : Fun K x x st f fd) (S : FnScope N ps (defScope st)) (len : ∀ vs H Q E, sp vs H Q E → vs.length = ps.length)
    (hbody : ∀ (cdv : Value) (A : Around) (outer : List Env) (s : Shared) (H : Hp) (vs : List V) (Q : VK) (E : XK), Room k (A.deeper (envOfC x (defScope st) s.heap.objs.size f cdv)) → A.guards = some [] → sp vs H Q E →
      ∃ t, PSs (cxOf CX0 P w K mg base N x (defScope st) f cdv A outer s H E).nox (defBody st) t ∧ t { nx := fun _ H' => Q .non H', rt := Q } (start N vs) H) : FnG P w K mg base CX0 (k + 1) f fd ps sp := by
  obtain ⟨oc, od, kV, doc, pm, an, cdv, ct, osl, rfl, lk, hcd⟩ := F.ex
  refine fnG_of lk hcd S len ?_
  intro A outer s H vs Q E hr hgd hsp
  obtain ⟨t, h, q⟩ := hbody cdv A outer s H vs Q E hr hgd hsp
  exact ⟨t, h.nox, q⟩
theorem Df.okG {x : Str} {st : Stmt} {N ps : List Str} {k : Nat} {sp : Sp} (D : Df K mg x st ps) (S : FnScope N ps (defScope st)) (len : ∀ vs H Q E, sp vs H Q E → vs.length = ps.length)
    (hbody : ∀ (f : Addr) (cdv : Value) (A : Around) (outer : List Env) (s : Shared) (H : Hp) (vs : List V) (Q : VK) (E : XK), Room k (A.deeper (envOfC x (defScope st) s.heap.objs.size f cdv)) → A.guards = some [] → sp vs H Q E →
      ∃ t, PSs (cxOf CX0 P w K mg base N x (defScope st) f cdv A outer s H E).nox (defBody st) t ∧ t { nx := fun _ H' => Q .non H', rt := Q } (start N vs) H) : OkG P w K mg base (k + 1) x ps sp := by
  obtain ⟨f, fd, F, b, g⟩ := D.ex
  exact ⟨f, fd, funG F S len (hbody f), g, F.kp, b⟩
end
section
variable {X : Cx} {x : Str} {ps : List Str} {k : Nat} {sp : Sp}
theorem pe_callG {e : Expr} {es : List Expr} {t : TA} {p pos : Pos} (O : OkG X.prog X.w X.K X.mg X.base k x ps sp) (hr : Room k X.A) (hgd : X.A.guards = some []) (hg : Gl X x) (ha : PA X (e :: es) t) (hdb : (x == ("__debug__" : Str)) = false := by decide)
    (he : starEach (e :: es) X.env = (false, eval e X.env) :: starEach es X.env := by rfl) (hpl : (backTo pos (starEach es X.env)).any (·.1) = false := by rfl) :
    PE X (.Call (.Name x p) (e :: es) [] pos) (fun σ H Q => t σ H fun vs H1 => sp vs H1 Q E0) := by
  obtain ⟨f, fd, F, g, kp, b⟩ := O.ex
  constructor
  intro pins s σ H Q I h
  apply wpAny_Call_Name_kw
  apply ld_glob I hg g _ hdb
  apply PySem.W.callWith_K (h₀ := X.base) I.ok.mod.kin kp _ he hpl
  apply thn (ha.run pos pins s σ H _ I h)
  rintro us s1 ⟨vs, H1, I1, r, q⟩
  exact ⟨I1.kIn, runG F hr hgd b pass0 I1 r q⟩
end
end OC

set_option Elab.async false
set_option linter.all false
set_option maxRecDepth 100000
set_option maxHeartbeats 2000000
namespace OC
open PySem PySem.Spec PyProof.Rows L2
section
variable {P : Program} {w : World} {K : PySem.W.Frag} {mg mb : Str → Option Value} {CX : CXT} {k : Nat} {fa a : Addr} {fd : FuncData} {x : Str} {sp : Sp} {s₁ : Shared} {vs : List Value} {ns : List Int}
/-- the law's own call, where only the script may be tracked -/
theorem law_core (KX : K.In s₁.heap) (hns : s₁.heap.Ns mainGlobals mg) (hb : s₁.heap.Ns builtinsNs mb) (hbb : ∀ x : Str, x ≠ "__name__" → mb x = bootBuiltins x)
    (hlim : s₁.heap.NoLimit) (hg : s₁.gens = #[]) (ha : s₁.heap.get? a = some { cls := .type "list", data := .seq vs.toArray }) (hr : Room k callerA)
    (F : ∀ base : Heap, K.In base → base.Ns mainGlobals mg → FnG P w K mg base CX k fa fd [x] sp)
    (hbind : ∀ (s : Shared) (u : Value), BindsTo s fd ⟨[u], []⟩ [(x, u)]) (hCX : ∀ H e s', CX [] H s₁ (fun _ _ _ => False) e s' → False)
    (H : Hp) (hO : Only H) (hsp : sp [.ref a] H (fun v _ => v = .bl true) fun _ _ _ => False) (hok : HOk P w H s₁.heap) (hA : ∀ b, H b ≠ none → b = a) (hK : H a ≠ none → K.lookup a = none) :
    codeAny (model P w) callerA (.call (.ref fa) ⟨[.ref a], []⟩)
      (fun r s' => r = .ok (.ret (.bool true)) ∧ OldK s₁.heap s'.heap ∧ s'.os = s₁.os ∧ AllBare s'.gens) s₁ := by
  have off : ∀ {b : Addr} {o : Obj} {es : Array DictEntry} {ep : Nat}, s₁.heap.get? b = some o → o.data = .dict es ep → H b = none := by
    intro b o es ep e d
    apply Classical.byContradiction
    intro nb
    have eb := hA b nb
    subst eb
    rw [ha] at e
    have eo := Option.some.inj e
    subst eo
    cases (show Data.seq vs.toArray _ = Data.dict es ep from d)
  have nsB : ∀ {b : Addr} {m : Str → Option Value}, s₁.heap.Ns b m → (hidT s₁.heap H).Ns b m := by
    rintro b m ⟨o, es, ep, e, d, r⟩
    exact ⟨o, es, ep, hidT_get e (off e d), d, r⟩
  have inB : K.In (hidT s₁.heap H) := by
    intro b o e
    refine hidT_get (KX b o e) ?_
    apply Classical.byContradiction
    intro nb
    have eb := hA b nb
    subst eb
    rw [hK nb] at e
    cases e
  obtain ⟨mc, l1, l2⟩ := hlim
  have M : Mod K mg (hidT s₁.heap H) := ⟨inB, nsB hns, ⟨mb, nsB hb, hbb⟩, ⟨mc, nsB l1, l2⟩⟩
  have e0 : Env0 P w K mg (hidT s₁.heap H) callerA [] s₁ H :=
    ⟨rfl, M, fun b o e => of_hidT e, Nat.le_of_eq (hidT_size _ _), trivial, fun b hb => (nomatch (show b ∈ ([] : List Addr) from hb)), hok, .of_eq hg⟩
  have run := (F _ inB (nsB hns)).go callerA [] s₁ H ⟨[.ref a], []⟩ [.ref a] [.ref a] _ _ hr rfl e0 (hbind s₁ (.ref a)) (.cons rfl .nil) hsp
  apply codeAny_mono run
  intro r s' h
  rcases r with e | fl
  · exact (hCX H e s' h).elim
  · rcases fl with _ | _ | _ | u
    all_goals first
      | exact (show False from h).elim
      | skip
    obtain ⟨v, H', os, bare, un, hok', r', q⟩ := h
    cases (show v = .bl true from q)
    cases (show u = Value.bool true from r')
    refine ⟨rfl, OldK.of_keep ?_, os, bare⟩
    intro b o e
    rcases hO b with z | ⟨ob, xs, z⟩
    · exact un.keep b o e z (fun y => (nomatch (show b ∈ ([] : List Addr) from y))) (fun y => (nomatch y))
    · have e1 := (hok b _ z).1
      have e2 := (hok' b _ (un.frzs b ob _ z)).1
      rw [e] at e1
      rw [Option.some.inj e1]
      exact e2
theorem law_callG (KX : K.In s₁.heap) (hns : s₁.heap.Ns mainGlobals mg) (hb : s₁.heap.Ns builtinsNs mb) (hbb : ∀ x : Str, x ≠ "__name__" → mb x = bootBuiltins x)
    (hlim : s₁.heap.NoLimit) (hg : s₁.gens = #[]) (ha : s₁.heap.get? a = some { cls := .type "list", data := .seq vs.toArray }) (hi : IntsAre vs ns) (hl : ns.length ≤ sizeLine) (hr : Room k callerA)
    (F : ∀ base : Heap, K.In base → base.Ns mainGlobals mg → FnG P w K mg base CX k fa fd [x] sp)
    (hbind : ∀ (s : Shared) (u : Value), BindsTo s fd ⟨[u], []⟩ [(x, u)])
    (hsp : ∀ H : Hp, Only H → SqL K H a (ns.map V.int) → sp [.ref a] H (fun v _ => v = .bl true) fun _ _ _ => False) (hCX : ∀ H e s', CX [] H s₁ (fun _ _ _ => False) e s' → False) :
    codeAny (model P w) callerA (.call (.ref fa) ⟨[.ref a], []⟩)
      (fun r s' => r = .ok (.ret (.bool true)) ∧ OldK s₁.heap s'.heap ∧ s'.os = s₁.os ∧ AllBare s'.gens) s₁ := by
  have rv := vals_ints hi
  have lv := hi.length
  cases hk : K.lookup a with
  | some o =>
    have e := KX a o hk
    rw [ha] at e
    have eo := (Option.some.inj e).symm
    subst eo
    have only : Only (fun _ => none) := fun _ => .inl rfl
    have sq : SqL K (fun _ => none) a (ns.map V.int) := .inr ⟨_, vs.toArray, _, hk, rfl, rfl, rfl, by rw [List.size_toArray, lv]; exact hl, by simpa using rv⟩
    exact law_core KX hns hb hbb hlim hg ha hr F hbind hCX (fun _ => none) only (hsp _ only sq) (fun b u z => (nomatch (show (none : Option HO) = some u from z))) (fun b z => (z rfl).elim) (fun z => (z rfl).elim)
  | none =>
    let H0 : Hp := upd (fun _ => none) a (.frz { cls := .type "list", data := .seq vs.toArray } (.lst (ns.map V.int)))
    have at_a : H0 a = some (.frz { cls := .type "list", data := .seq vs.toArray } (.lst (ns.map V.int))) := upd_same
    have off : ∀ b, b ≠ a → H0 b = none := fun b n => upd_ne n
    have only : Only H0 := by
      intro b
      by_cases hb : b = a
      · subst hb
        exact .inr ⟨_, _, at_a⟩
      · exact .inl (off b hb)
    refine law_core KX hns hb hbb hlim hg ha hr F hbind hCX H0 only (hsp _ only (.inl (.inr ⟨_, at_a⟩))) ?_ ?_ (fun _ => hk)
    · intro b u z
      by_cases hb : b = a
      · subst hb
        rw [at_a] at z
        have ez := (Option.some.inj z).symm
        subst ez
        exact ⟨ha, by rw [List.length_map]; exact hl, vs, _, rv, ha⟩
      · rw [off b hb] at z
        cases z
    · intro b z
      apply Classical.byContradiction
      intro hb
      exact z (off b hb)
end
theorem walk_ofG {l : PySem.W.OpenLaw} {n k : Nat} {q : Program} {loose : List Str} {XP : (Str → Option Value) → Heap → Prop} {YP : World → Heap → Prop} {d : DefRec} {K : Params → PySem.W.Frag} {CX : World → CXT} {sp : World → Sp} {x : Str}
    (hn : l.most = some n) (hn2 : n ≤ sizeLine) (hdf : d.params.defaults = []) (hr : Room k callerA) (hY : ∀ (w : World) (h : Heap), YP w h → (K w.params).In h) (F : ∀ (w : World) (mg : Str → Option Value) (fa : Addr) (h : Heap), (K w.params).In h → h.Ns mainGlobals mg → mg d.name = some (.ref fa) → ∃ fd : FuncData, (∀ (s : Shared) (u : Value), BindsTo s fd ⟨[u], []⟩ [(x, u)]) ∧ ∀ base : Heap, (K w.params).In base → base.Ns mainGlobals mg → FnG l.prog w (K w.params) mg base (CX w) k fa fd [x] (sp w)) (hsp : ∀ (w : World) (H : Hp) (a : Addr) (ns : List Int), ns.length ≤ n → Only H → SqL (K w.params) H a (ns.map V.int) → sp w [.ref a] H (fun v _ => v = .bl true) fun _ _ _ => False) (hCX : ∀ (w : World) (H : Hp) (s : Shared) (e : Value) (s' : Shared), CX w [] H s (fun _ _ _ => False) e s' → False) : PySem.W.WalkO q loose XP YP l.row.toRowW d [] (fun f vs => PySem.call f vs) := by
  apply Att.attach_call hn hdf
  intro w s₀ s₁ mg mb fa o pm cd doc a vs ns G Y ho hd hcd hmg hobj hints hlen hg
  obtain ⟨fd, hb, hF⟩ := F w mg fa _ (hY w _ Y) G.T.g hmg
  exact law_callG (hY w _ Y) G.T.g G.T.b G.T.builtins G.T.nolimit hg hobj hints (Nat.le_trans hlen hn2) hr hF hb (fun H hO hS => hsp w H a ns hlen hO hS) fun H e s' => hCX w H s₁ e s'
end OC

set_option Elab.async false
set_option linter.all false
set_option maxRecDepth 100000
set_option maxHeartbeats 2000000
/-! t[::-1] of a tuple -/
namespace OC
open PySem PySem.Spec PyProof.Rows L2 HT
section
variable {prog : Program} {w : World} {A : Around} {E : Value → Shared → Prop} {s : Shared}
theorem pick_back (xs : Array Value) : ((List.range xs.size).filterMap fun (m : Nat) => xs[(((xs.size : Int) - 1) + (m : Int) * (-1)).toNat]?).toArray = xs.toList.reverse.toArray := by
  congr 1
  have h : ∀ k, k ≤ xs.size → ((List.range k).filterMap fun (m : Nat) => xs[(((xs.size : Int) - 1) + (m : Int) * (-1)).toNat]?) = xs.toList.reverse.take k := by
    intro k
    induction k with
    | zero => intro _; simp
    | succ k ih =>
      intro hk
      have i1 : (((xs.size : Int) - 1) + (k : Int) * (-1)).toNat = xs.size - 1 - k := by omega
      have i2 : xs.size - 1 - k < xs.size := by omega
      rw [List.range_succ, List.filterMap_append, ih (by omega), List.take_add_one]
      congr 1
      have g : xs.toList.reverse[k]? = some xs[xs.size - 1 - k] := by
        rw [List.getElem?_reverse (by simpa using (show k < xs.size from hk)), Array.length_toList, Array.getElem?_toList]
        exact Array.getElem?_eq_getElem i2
      rw [g]
      simp only [List.filterMap_cons, List.filterMap_nil, i1, Array.getElem?_eq_getElem i2]
      rfl
  rw [h xs.size (Nat.le_refl _), List.take_of_length_le]
  simp
theorem slice_back {sl : Addr} {vl vu vs : Value} {n : Nat} {Q : Int × Int × Nat → Shared → Prop} (hs : s.heap.IsSliceOf sl vl vu vs) (pl : IsPart vl none) (pu : IsPart vu none) (ps : IsPart vs (some (-1)))
    (h : Q ((n : Int) - 1, -1, n) s) : wpAny (model prog w) A (Builtin.Slice.sliceApplied (.ref sl) (pure (n : Int))) Q E s := by
  obtain ⟨os, hos, hcs, hds⟩ := id hs
  unfold Builtin.Slice.sliceApplied Builtin.Slice.sliceFields
  apply wpAny_bind
  apply wpAny_bind
  apply wpAny_field hos hds (x := vl) rfl
  apply wpAny_bind
  apply wpAny_field hos hds (x := vu) rfl
  apply wpAny_bind
  apply wpAny_field hos hds (x := vs) rfl
  apply wpAny_pure
  apply wpAny_bind
  apply slicePart_ ps
  show wpAny _ _ (if ((-1 : Int) == 0) = true then _ else _) _ _ s
  rw [if_neg (by decide)]
  apply wpAny_bind
  apply slicePart_ pl
  apply wpAny_bind
  apply slicePart_ pu
  apply wpAny_bind
  apply wpAny_pure
  have e1 : Builtin.Slice.sliceAdjust none none (-1) (n : Int) = ((n : Int) - 1, -1) := rfl
  have e2 : Builtin.Slice.slicePlaces ((n : Int) - 1) (-1) (-1) = n := by
    unfold Builtin.Slice.slicePlaces
    rw [if_neg (by decide)]
    by_cases hn : n = 0
    · subst hn
      decide
    · rw [if_pos (by omega), show (- -1 : Int) = 1 from rfl, Int.ediv_one]
      omega
  show wpAny _ _ (match Builtin.Slice.sliceAdjust none none (-1) (n : Int) with | (lo, hi) => pure (lo, (-1 : Int), Builtin.Slice.slicePlaces lo hi (-1))) _ _ s
  rw [e1]
  show wpAny _ _ (pure ((n : Int) - 1, (-1 : Int), Builtin.Slice.slicePlaces ((n : Int) - 1) (-1) (-1))) _ _ s
  rw [e2]
  exact wpAny_pure h
theorem getItem_tuple_back {t sl : Addr} {items : Array Value} {vl vu vs : Value} {Q : Value → Shared → Prop} (ht : IsTup s.heap t items) (hs : s.heap.IsSliceOf sl vl vu vs) (pl : IsPart vl none) (pu : IsPart vu none) (ps : IsPart vs (some (-1)))
    (h : Q (.ref s.heap.objs.size) { s with heap := s.heap.push { cls := .type "tuple", data := .seq items.toList.reverse.toArray } }) (hsz : items.size ≤ sizeLine) : wpAny (model prog w) A (getItem (.ref t) (.ref sl)) Q E s := by
  have hz : sizeOk (.seq items.toList.reverse.toArray) := by
    show items.toList.reverse.toArray.size ≤ sizeLine
    simpa using hsz
  obtain ⟨os, hos, hcs, hds⟩ := id hs
  have hTs : s.TypeIs (.ref sl) "slice" := ⟨os, hos, hcs⟩
  unfold getItem
  try with_reducible apply wpAny_holding
  try (apply wpAny_bind; apply wpAny_pure)
  apply wpAny_bind
  apply wpAny_sequenceKey ht.typeIs (by decide)
  apply wpAny_bind
  apply wpAny_callSpecial?_slot (name := Str.ofString "__getitem__") ht.typeIs PyProof.Rows.slot_tuple_getitem
  refine wpAny_call_entry PyProof.Rows.slot_tuple_getitem ht.typeIs entry_tuple_getitem ?_ (args_tuple_getitem _ _)
  show wpAny _ _ (Builtin.Tuple.tupleItemsOf (.ref t) >>= _) _ _ s
  apply wpAny_bind
  apply tupleItemsOf_ ht
  apply wpAny_bind
  apply wpAny_typeOf hTs
  rw [if_pos (by decide)]
  apply wpAny_bind
  apply slice_back hs pl pu ps
  have hno : ¬ ((((items.size : Int) - 1) == 0 && (-1 : Int) == 1 && items.size == items.size) = true) := by simp
  show wpAny _ _ (if (((items.size : Int) - 1) == 0 && (-1 : Int) == 1 && items.size == items.size) = true then _ else _) _ _ s
  rw [if_neg hno, pick_back]
  first
    | exact wpAny_bind (m := Builtin.Tuple.tupleExact _) (wpAny_newObj_type (wpAny_pure ⟨_, rfl, wpAny_pure h⟩) hz)
    | exact wpAny_bind (wpAny_bind (m := Builtin.Tuple.tupleExact _) (wpAny_newObj_type (wpAny_pure ⟨_, rfl, wpAny_pure h⟩) hz))
    | exact wpAny_bind (m := Builtin.Tuple.tupleExact _) (wpAny_newObj_type (wpAny_bind (wpAny_pure (wpAny_pure ⟨_, rfl, wpAny_pure h⟩))) hz)
    | exact wpAny_bind (wpAny_bind (m := Builtin.Tuple.tupleExact _) (wpAny_newObj_type (wpAny_pure (wpAny_pure ⟨_, rfl, wpAny_pure h⟩)) hz))
end
def tRevT (K : PySem.W.Frag) (te : TE) : TE := fun σ H Q => te σ H fun x H1 => ∃ a xs, x = .ref a ∧ SqT K H1 a xs ∧ ∀ p, H1 p = none → Q (.ref p) (upd H1 p (.tup xs.reverse))
theorem pe_revT {X : Cx} {e : Expr} {te : TE} {k : Nat} {p1 p2 p3 pos : Pos} (he : PE X e te) :
    PE X (.Subscript e (.Slice none none (some (.UnaryOp .USub (.Constant (.int 1) k p1) p2)) p3) pos) (tRevT X.K te) := by
  constructor
  intro pins s σ H Q I h
  apply Subscript_
  apply thn (he.run pins s σ H _ I h)
  rintro v s1 ⟨x, H1, I1, r1, a, xs, rfl, hx, q⟩
  cases r1
  have part : PO X (some (.UnaryOp .USub (.Constant (.int 1) k p1) p2)) (tPart (tUn (rU fun i => .int (-i)) (tC (.int 1)))) := po_some (pe_un un_neg pe_int)
  apply wpAny_Slice
  apply thn (po_none.run pins s1 σ H1 (fun o H2 => o = none ∧ H2 = H1) I1 ⟨rfl, rfl⟩)
  rintro vl s2 ⟨_, _, I2, pl, rfl, rfl⟩
  apply thn (po_none.run pins s2 σ _ (fun o H3 => o = none ∧ H3 = _) I2 ⟨rfl, rfl⟩)
  rintro vu s3 ⟨_, _, I3, pu, rfl, rfl⟩
  apply thn (part.run pins s3 σ _ (fun o H4 => o = some (-1) ∧ H4 = _) I3 ⟨1, rfl, -1, rfl, rfl, rfl⟩)
  rintro vs s4 ⟨_, _, I4, ps, rfl, rfl⟩
  have I5 := I4.kept (h' := s4.heap.push { cls := .type "slice", data := .fields #[vl, vu, vs] }) (t' := s4.toks) fun b ob q => Heap.get?_push_of_some _ q
  obtain ⟨its, r, ht, hz⟩ := I5.tuple hx
  have hlen := r.length
  show wpAny (model X.prog X.w) X.A (subscriptTail e (.Slice none none (some (.UnaryOp .USub (.Constant (.int 1) k p1) p2)) p3) (.ref a) (.ref s4.heap.objs.size)) (EP X pins σ Q) X.xe _
  refine tail_any (ops := [.ref a, .ref s4.heap.objs.size]) ht.typeIs (PyProof.Rows.slot_tuple_getitem.lookup) ?_ (by with_unfolding_all rfl)
  refine getItem_tuple_back ht (Heap.IsSliceOf.new _ vl vu vs) pl pu ps ?_ (by rw [List.size_toArray]; omega)
  have J := I5.laid (t' := s4.toks) (o := .tup xs.reverse) (h' := (s4.heap.push { cls := .type "slice", data := .fields #[vl, vu, vs] }).push { cls := .type "tuple", data := .seq its.toArray.toList.reverse.toArray }) (fun b ob q => Heap.get?_push_of_some _ q) (Nat.le_refl _) ⟨by rw [List.length_reverse]; exact hz, its.reverse, r.reverse, IsTup.new _ _⟩
  exact ⟨.ref _, _, J, rfl, q _ (I5.hok.fresh (Nat.le_refl _))⟩
end OC

set_option Elab.async false
set_option linter.all false
set_option maxRecDepth 100000
set_option maxHeartbeats 2000000
/-! repr of things, where no repr is under way -/
namespace OC
open PySem PySem.Spec PyProof.Rows L2
mutual
def lstless : PyData → Bool
  | .none => true | .bool _ => true | .int _ => true | .str _ => true | .list _ => false | .tuple ds => lstlessAll ds | .dict _ => true
def lstlessAll : List PyData → Bool
  | [] => true
  | d :: ds => lstless d && lstlessAll ds
end
section
variable {X : Cx} {pins : List (Addr × Obj)} {σ : L2.St} {H : Hp} {s : Shared} {bad : Addr → Prop}
theorem reads_key {h : Heap} {k : Key} {u : Value} (e : keyIs k u = true) : Reads h u (keyD k) [] := by
  rcases keyIs_shape e with ⟨i, t, rfl, rfl⟩ | ⟨x, t, rfl, rfl⟩
  · exact .int i t
  · exact .str x t
theorem reads_fl {h : Heap} : ∀ {v : V} {u : Value}, flOk v = true → RelV v u → Reads h u (flD v) []
  | .non, _, _, r => by cases r; exact .none
  | .bl b, _, _, r => by cases r; exact .bool b
  | .int i, _, _, r => by obtain ⟨t, rfl⟩ := r; exact .int i t
  | .str x, _, _, r => by obtain ⟨t, rfl⟩ := r; exact .str x t
theorem reads_pairs {h : Heap} {P : Program} {w : World} : ∀ {es : List DictEntry} {vs : List (Key × Value)} {kvs : List (Key × V)}, Pairs (mixKind P w) es vs → KV kvs vs → (kvs.all fun p => flOk p.2) = true →
    ReadsAll h (es.map (·.key)) (kvs.map fun p => keyD p.1) [] ∧ ReadsAll h (es.map (·.val)) (kvs.map fun p => flD p.2) []
  | _, _, _, .nil, .nil, _ => ⟨.nil, .nil⟩
  | _, _, _, .cons h1 h2 t, .cons ⟨e1, e2⟩ t2, hf => by
    rw [List.all_cons, Bool.and_eq_true] at hf
    obtain ⟨a, b⟩ := reads_pairs (h := h) t t2 hf.2
    have k1 := reads_key (h := h) (show keyIs _ _ = true from h1)
    rw [← e1] at k1
    have v1 := reads_fl (h := h) hf.1 e2
    rw [← h2] at v1
    exact ⟨.cons k1 a, .cons v1 b⟩
mutual
theorem rep_reads (I : Inv X pins σ H s) : ∀ (d : PyData) (v : V) (u : Value), Rep X.K H bad v d → RelV v u → ∃ as, Reads s.heap u d as ∧ (lstless d = true → sysModules ∉ as)
  | .none, _, _, h, r => by cases h; cases r; exact ⟨_, .none, fun _ => nofun⟩
  | .bool b, _, _, h, r => by cases h; cases r; exact ⟨_, .bool b, fun _ => nofun⟩
  | .int i, _, _, h, r => by cases h; obtain ⟨t, rfl⟩ := r; exact ⟨_, .int i t, fun _ => nofun⟩
  | .str x, _, _, h, r => by cases h; obtain ⟨t, rfl⟩ := r; exact ⟨_, .str x t, fun _ => nofun⟩
  | .list ds, _, _, h, r => by
    cases h with
    | lst hs hb ha =>
      cases r
      obtain ⟨its, rv, ⟨o, n, ho, hc, _, hd⟩, _⟩ := I.list (.inl (.inl hs))
      obtain ⟨as, q, _⟩ := repAll_reads I ds _ its ha rv
      exact ⟨_, .list ho hc hd q, fun z => by simp [lstless] at z⟩
  | .tuple ds, _, _, h, r => by
    cases h with
    | tup hs ha =>
      cases r
      obtain ⟨its, rv, ⟨o, ho, hc, n, hd⟩, _⟩ := I.tuple hs
      obtain ⟨as, q, f⟩ := repAll_reads I ds _ its ha rv
      exact ⟨_, .tuple ho hc hd q, fun z => f (by simpa [lstless] using z)⟩
  | .dict kvs, v, u, h, r => by
    cases h with
    | @dct a ks hs hf =>
      cases r
      obtain ⟨_, hsys, vs, kv, o, es, ep, ho, hx, hd, _, hp, _⟩ := I.hok a _ hs
      obtain ⟨r1, r2⟩ := reads_pairs (h := s.heap) hp kv hf
      refine ⟨a :: [] ++ [], .dict ho hx.1 hd (by rw [List.map_map]; exact r1) (by rw [List.map_map]; exact r2), fun _ m => ?_⟩
      have e : sysModules = a := by simpa using m
      rw [← e] at hsys
      simp at hsys
theorem repAll_reads (I : Inv X pins σ H s) : ∀ (ds : List PyData) (vs : List V) (us : List Value), RepAll X.K H bad vs ds → Vals vs us → ∃ as, ReadsAll s.heap us ds as ∧ (lstlessAll ds = true → sysModules ∉ as)
  | [], _, _, h, r => by cases h; cases r; exact ⟨_, .nil, fun _ => nofun⟩
  | d :: ds, _, _, h, r => by
    cases h with
    | cons h1 h2 =>
      cases r with
      | cons r1 r2 =>
        obtain ⟨as, q1, f1⟩ := rep_reads I d _ _ h1 r1
        obtain ⟨bs, q2, f2⟩ := repAll_reads I ds _ _ h2 r2
        refine ⟨_, .cons q1 q2, fun z m => ?_⟩
        have z' : lstless d = true ∧ lstlessAll ds = true := by simpa [lstlessAll] using z
        rcases List.mem_append.mp m with m | m
        · exact f1 z'.1 m
        · exact f2 z'.2 m
end
end
/-- what repr asks of a thing -/
structure Fit (d : PyData) : Prop where
  len : d.shown.length ≤ 1000000
  sh : d.showable = true
  dp : d.depth ≤ 50
  ok : d.hasDict = true → lstless d = true
def rReprQ (K : PySem.W.Frag) (bad : Addr → Prop) : List V → Hp → VK → Prop := fun xs H Q => ∃ v d, xs = [v] ∧ Rep K H bad v d ∧ Fit d ∧ Q (.str d.shown) H
theorem call_reprQ {X : Cx} {k : Nat} (bad : Addr → Prop) (hr : Room k X.A) (hgd : X.A.guards = some []) : CallR X (.builtin "repr") (rReprQ X.K bad) := by
  intro pins s σ H xs us Q I r h
  obtain ⟨v, d, rfl, hv, ⟨fl, fs, fd, fo⟩, q⟩ := h
  cases r with
  | cons r1 r2 =>
    cases r2
    have hz : d.shown.length ≤ sizeLine := Nat.le_trans fl (by decide)
    have hu := hr.units
    obtain ⟨as, rd, hsm⟩ := rep_reads I d v _ hv r1
    cases hv with
    | non => cases r1; exact P.repr_of_none ⟨.str _, H, I.tok _, ⟨_, rfl⟩, q⟩
    | bl b => cases r1; exact P.repr_of_bool ⟨.str _, H, I.tok _, ⟨_, rfl⟩, q⟩
    | int i =>
      obtain ⟨t, rfl⟩ := r1
      exact P.repr_of_int (by simpa [PyData.showable] using fs) ⟨.str _, H, I.tok _, ⟨_, rfl⟩, q⟩
    | str x =>
      obtain ⟨t, rfl⟩ := r1
      exact P.repr_of_str ⟨.str _, H, I.tok _, ⟨_, rfl⟩, q⟩ hz
    | lst _ _ _ => cases r1; exact repr_of_reads' rd fs (fun z => hsm (fo z)) hgd (by omega) (fun _ _ e => e) (fun h' u tk hk => ⟨.str _, H, I.kept hk, ⟨_, rfl⟩, q⟩) hz
    | tup _ _ => cases r1; exact repr_of_reads' rd fs (fun z => hsm (fo z)) hgd (by omega) (fun _ _ e => e) (fun h' u tk hk => ⟨.str _, H, I.kept hk, ⟨_, rfl⟩, q⟩) hz
    | dct _ _ => cases r1; exact repr_of_reads' rd fs (fun z => hsm (fo z)) hgd (by omega) (fun _ _ e => e) (fun h' u tk hk => ⟨.str _, H, I.kept hk, ⟨_, rfl⟩, q⟩) hz
end OC

set_option Elab.async false
set_option linter.all false
set_option maxRecDepth 100000
set_option maxHeartbeats 2000000
/-! xs == [], xs != [], whatever xs holds -/
namespace OC
open PySem PySem.Spec PyProof.Rows L2
def rEqNil : R2 := fun x y H Q => ∃ l b xs, x = .ref l ∧ y = .ref b ∧ H l = some (.lst xs) ∧ H b = some (.lst []) ∧ Q (.bl xs.isEmpty) H
def rNeNil : R2 := fun x y H Q => ∃ l b xs, x = .ref l ∧ y = .ref b ∧ H l = some (.lst xs) ∧ H b = some (.lst []) ∧ Q (.bl (!xs.isEmpty)) H
theorem shaped_nil : SeqAt.shaped (.list []) = true := shaped_ints []
theorem op_eqNil {X : Cx} (hu : X.A.units + 64 < cLine) : OpR X (compareOp .Eq) rEqNil := by
  intro pins s σ H x y v u Q I rx ry h
  obtain ⟨l, b, xs, ex, ey, hl, hb, q⟩ := h
  cases xs with
  | nil =>
    subst ex ey
    exact op_eqD hu pins s σ H _ _ v u Q I rx ry ⟨.list [], .list [], .lst (.inl (.inl hl)) .nil, .lst (.inl (.inl hb)) .nil, shaped_nil, shaped_nil, q⟩
  | cons z r =>
    subst ex ey
    cases rx
    cases ry
    obtain ⟨its, r1, p1, _⟩ := I.list (.inl (.inl hl))
    obtain ⟨its2, r2, p2, _⟩ := I.list (.inl (.inl hb))
    have l1 := r1.length
    have l2 := r2.length
    refine SeqAt.eq_list_lengthsAt p1.isList p2.isList ?_ (by omega) ⟨.bl false, H, I, rfl, q⟩
    rw [List.size_toArray, List.size_toArray, ← l1, ← l2]
    rfl
theorem op_neNil {X : Cx} (hu : X.A.units + 64 < cLine) : OpR X (compareOp .NotEq) rNeNil := by
  intro pins s σ H x y v u Q I rx ry h
  obtain ⟨l, b, xs, ex, ey, hl, hb, q⟩ := h
  cases xs with
  | nil =>
    subst ex ey
    exact op_neD hu pins s σ H _ _ v u Q I rx ry ⟨.list [], .list [], .lst (.inl (.inl hl)) .nil, .lst (.inl (.inl hb)) .nil, shaped_nil, shaped_nil, q⟩
  | cons z r =>
    subst ex ey
    cases rx
    cases ry
    obtain ⟨its, r1, p1, _⟩ := I.list (.inl (.inl hl))
    obtain ⟨its2, r2, p2, _⟩ := I.list (.inl (.inl hb))
    have l1 := r1.length
    have l2 := r2.length
    have hd : (its.toArray.size != its2.toArray.size) = true := by
      rw [List.size_toArray, List.size_toArray, ← l1, ← l2]
      rfl
    exact SeqAt.RcNeAt.lists_lengths p1.isList p2.isList hd (by omega) X.prog X.w X.xe _ ⟨.bl true, H, I, rfl, q⟩
end OC

set_option Elab.async false
set_option linter.all false
set_option maxRecDepth 100000
set_option maxHeartbeats 1000000
/-! things as data: what repr and the judges ask of them -/
namespace OC
open PySem PySem.Spec PyProof.Rows L2
/-- of ints, tuples of ints, tuples of such -/
def Pu : Nat → PyData → Prop
  | 0, d => ∃ i : Int, d = .int i ∧ -1000000 ≤ i ∧ i ≤ 1000000
  | n + 1, d => ∃ ds : List PyData, d = .tuple ds ∧ ds.length ≤ 30 ∧ ∀ x ∈ ds, Pu n x
def oddD (p : Int) : List PyData := [.none, .bool true, .bool false, .int (-1), .int p, .int 0, .int 1, .int (10 ^ 29), .str "", .str "1", .tuple [], .tuple [.int 0], .list [], .list [.int 0], .dict [], .dict [(.str "a", .int 1)], .int (p - 1), .tuple [.tuple [.int 0]]]
/-- bent: an odd thing, or a pure one with one bent thing within -/
def Bt (p : Int) : Nat → PyData → Prop
  | 0, d => d ∈ oddD p ∨ ∃ i : Int, d = .int i ∧ -10000000 ≤ i ∧ i ≤ 10000000
  | n + 1, d => d ∈ oddD p ∨ (∃ as e bs, d = .tuple (as ++ e :: bs) ∧ as.length ≤ 30 ∧ bs.length ≤ 30 ∧ (∀ x ∈ as, Pu n x) ∧ (∀ x ∈ bs, Pu n x) ∧ Bt p n e) ∨
      (∃ ds, d = .tuple ds ∧ ds.length ≤ 60 ∧ ∀ x ∈ ds, Pu n x) ∨ (∃ ds, d = .list ds ∧ ds.length ≤ 60 ∧ ∀ x ∈ ds, Pu n x)
/-- fit for repr, with bounds -/
structure FitB (B k : Nat) (d : PyData) : Prop where
  len : d.shown.length ≤ B
  sh : d.showable = true
  dp : d.depth ≤ k
  ok : d.hasDict = true → lstless d = true
theorem FitB.mono {B B' k k' : Nat} {d : PyData} (h : FitB B k d) (hB : B ≤ B') (hk : k ≤ k') : FitB B' k' d := ⟨Nat.le_trans h.len hB, h.sh, Nat.le_trans h.dp hk, h.ok⟩
theorem FitB.fit {B k : Nat} {d : PyData} (h : FitB B k d) (hB : B ≤ 1000000) (hk : k ≤ 50) : Fit d := ⟨Nat.le_trans h.len hB, h.sh, Nat.le_trans h.dp hk, h.ok⟩
theorem log_small {i : Int} (h : i.natAbs < 10 ^ 40) : i.natAbs.log2 < 1920 := by
  by_cases hz : i.natAbs = 0
  · rw [hz]
    decide
  · exact (Nat.log2_lt hz).mpr (Nat.lt_of_lt_of_le h (by decide +kernel))
theorem fit_int {i : Int} (h : i.natAbs < 10 ^ 40) : FitB 50 0 (.int i) := by
  refine ⟨?_, ?_, by simp [PyData.depth], by simp [PyData.hasDict]⟩
  · have e := int_text_length_le10 (k := 40) (by decide) h
    show (Str.ofString (toString i)).length ≤ 50
    rw [PySem.ofString_length]
    omega
  · simp only [PyData.showable]
    exact decide_eq_true (log_small h)
theorem sum_le {B : Nat} : ∀ {ts : List Str}, (∀ t ∈ ts, t.length ≤ B) → (ts.map (·.length)).sum ≤ ts.length * B
  | [], _ => by simp
  | t :: r, h => by
    have h1 := h t List.mem_cons_self
    have h2 := sum_le (ts := r) fun x hx => h x (List.mem_cons_of_mem _ hx)
    rw [List.map_cons, List.sum_cons, List.length_cons, Nat.add_mul]
    omega
theorem shownAll_map : ∀ ds : List PyData, PyData.shownAll ds = ds.map PyData.shown
  | [] => by simp [PyData.shownAll]
  | d :: r => by simp [PyData.shownAll, shownAll_map r]
theorem showAll_of : ∀ {ds : List PyData}, (∀ d ∈ ds, d.showable = true) → PyData.showableAll ds = true
  | [], _ => by simp [PyData.showableAll]
  | d :: r, h => by simp [PyData.showableAll, h d List.mem_cons_self, showAll_of (ds := r) fun x hx => h x (List.mem_cons_of_mem _ hx)]
theorem depthAll_of {k : Nat} : ∀ {ds : List PyData}, (∀ d ∈ ds, d.depth ≤ k) → PyData.depthAll ds ≤ k
  | [], _ => by simp [PyData.depthAll]
  | d :: r, h => by
    have h1 := h d List.mem_cons_self
    have h2 := depthAll_of (ds := r) fun x hx => h x (List.mem_cons_of_mem _ hx)
    simp only [PyData.depthAll]
    omega
theorem hasDict_ex : ∀ {ds : List PyData}, PyData.hasDictAll ds = true → ∃ d ∈ ds, d.hasDict = true
  | [], h => by simp [PyData.hasDictAll] at h
  | d :: r, h => by
    have h' : d.hasDict = true ∨ PyData.hasDictAll r = true := by simpa [PyData.hasDictAll] using h
    rcases h' with h | h
    · exact ⟨d, List.mem_cons_self, h⟩
    · obtain ⟨x, m, e⟩ := hasDict_ex h
      exact ⟨x, List.mem_cons_of_mem _ m, e⟩
theorem lstlessAll_of : ∀ {ds : List PyData}, (∀ d ∈ ds, lstless d = true) → lstlessAll ds = true
  | [], _ => by simp [lstlessAll]
  | d :: r, h => by simp [lstlessAll, h d List.mem_cons_self, lstlessAll_of (ds := r) fun x hx => h x (List.mem_cons_of_mem _ hx)]
theorem fit_tuple {B k n : Nat} {ds : List PyData} (hl : ds.length ≤ n) (h : ∀ d ∈ ds, FitB B k d) (ok : PyData.hasDictAll ds = true → lstlessAll ds = true) : FitB (n * (B + 2) + 3) (k + 1) (.tuple ds) := by
  refine ⟨?_, ?_, ?_, ?_⟩
  · simp only [PyData.shown]
    refine Nat.le_trans (tupleText_len_le _) ?_
    rw [shownAll_map, List.length_map]
    have h1 := sum_le (B := B) (ts := ds.map PyData.shown) fun t ht => by
      obtain ⟨d, m, rfl⟩ := List.mem_map.mp ht
      exact (h d m).len
    rw [List.length_map] at h1
    have h2 : ds.length * (B + 2) ≤ n * (B + 2) := Nat.mul_le_mul_right _ hl
    rw [Nat.mul_add] at h2
    omega
  · simp only [PyData.showable]
    exact showAll_of fun d m => (h d m).sh
  · simp only [PyData.depth]
    have := depthAll_of fun d m => (h d m).dp
    omega
  · simp only [PyData.hasDict, lstless]
    exact ok
theorem fit_list {B k n : Nat} {ds : List PyData} (hl : ds.length ≤ n) (h : ∀ d ∈ ds, FitB B k d) (ok : PyData.hasDictAll ds = false) : FitB (n * (B + 2) + 3) (k + 1) (.list ds) := by
  refine ⟨?_, ?_, ?_, ?_⟩
  · simp only [PyData.shown]
    refine Nat.le_trans (listText_len_le _) ?_
    rw [shownAll_map, List.length_map]
    have h1 := sum_le (B := B) (ts := ds.map PyData.shown) fun t ht => by
      obtain ⟨d, m, rfl⟩ := List.mem_map.mp ht
      exact (h d m).len
    rw [List.length_map] at h1
    have h2 : ds.length * (B + 2) ≤ n * (B + 2) := Nat.mul_le_mul_right _ hl
    rw [Nat.mul_add] at h2
    omega
  · simp only [PyData.showable]
    exact showAll_of fun d m => (h d m).sh
  · simp only [PyData.depth]
    have := depthAll_of fun d m => (h d m).dp
    omega
  · simp only [PyData.hasDict, ok]
    exact fun z => nomatch z
theorem fit_odd {p : Int} (hp : p.natAbs < 10 ^ 30) : ∀ {d : PyData}, d ∈ oddD p → FitB 200 3 d := by
  intro d hd
  unfold oddD at hd
  simp only [List.mem_cons, List.not_mem_nil, or_false] at hd
  have big : (10 : Nat) ^ 30 < 10 ^ 40 := by decide
  rcases hd with rfl | rfl | rfl | rfl | rfl | rfl | rfl | rfl | rfl | rfl | rfl | rfl | rfl | rfl | rfl | rfl | rfl | rfl
  case inr.inr.inr.inr.inl => exact (fit_int (by omega)).mono (by omega) (by omega)
  case inr.inr.inr.inr.inr.inr.inr.inr.inr.inr.inr.inr.inr.inr.inr.inr.inl => exact (fit_int (by omega)).mono (by omega) (by omega)
  all_goals exact ⟨by decide +kernel, by decide +kernel, by decide +kernel, by decide +kernel⟩
theorem hasDictAll_no : ∀ {ds : List PyData}, (∀ d ∈ ds, d.hasDict = false) → PyData.hasDictAll ds = false
  | [], _ => by simp [PyData.hasDictAll]
  | d :: r, h => by simp [PyData.hasDictAll, h d List.mem_cons_self, hasDictAll_no (ds := r) fun x hx => h x (List.mem_cons_of_mem _ hx)]
theorem pu_no : ∀ (n : Nat) (d : PyData), Pu n d → d.hasDict = false ∧ lstless d = true
  | 0, _, ⟨i, rfl, _⟩ => by simp [PyData.hasDict, lstless]
  | n + 1, _, ⟨ds, rfl, _, h⟩ => by
    simp only [PyData.hasDict, lstless]
    exact ⟨hasDictAll_no fun d m => (pu_no n d (h d m)).1, lstlessAll_of fun d m => (pu_no n d (h d m)).2⟩
def fB : Nat → Nat
  | 0 => 50
  | n + 1 => 60 * (fB n + 2) + 3
theorem pu_fit : ∀ (n : Nat) (d : PyData), Pu n d → FitB (fB n) n d
  | 0, _, ⟨i, rfl, h1, h2⟩ => fit_int (Nat.lt_of_le_of_lt (show i.natAbs ≤ 1000000 by omega) (by decide))
  | n + 1, _, ⟨ds, rfl, hl, h⟩ => (fit_tuple (n := 60) (by omega) (fun d m => pu_fit n d (h d m)) fun z => by
      rw [hasDictAll_no fun d m => (pu_no n d (h d m)).1] at z
      cases z)
def gB : Nat → Nat
  | 0 => 200
  | n + 1 => 61 * (max (gB n) (fB n) + 2) + 3
theorem gB_ge : ∀ n : Nat, 200 ≤ gB n
  | 0 => by decide
  | n + 1 => by
    have := gB_ge n
    simp only [gB]
    omega
theorem bt_fit {p : Int} (hp : p.natAbs < 10 ^ 30) : ∀ (n : Nat) (d : PyData), Bt p n d → FitB (gB n) (n + 3) d
  | 0, _, .inl h => (fit_odd hp h).mono (Nat.le_refl _) (by omega)
  | 0, _, .inr ⟨i, rfl, h1, h2⟩ => (fit_int (Nat.lt_of_le_of_lt (show i.natAbs ≤ 10000000 by omega) (by decide))).mono (by decide) (by omega)
  | n + 1, _, .inl h => (fit_odd hp h).mono (gB_ge (n + 1)) (by omega)
  | n + 1, _, .inr (.inl ⟨as, e, bs, rfl, la, lb, ha, hb, he⟩) => by
    have fe := bt_fit hp n e he
    refine fit_tuple (n := 61) (B := max (gB n) (fB n)) (k := n + 3) (by rw [List.length_append, List.length_cons]; omega) (fun d m => ?_) (fun z => ?_)
    · rcases List.mem_append.mp m with m | m
      · exact (pu_fit n d (ha d m)).mono (Nat.le_max_right _ _) (by omega)
      · rcases List.mem_cons.mp m with rfl | m
        · exact fe.mono (Nat.le_max_left _ _) (by omega)
        · exact (pu_fit n d (hb d m)).mono (Nat.le_max_right _ _) (by omega)
    · obtain ⟨x, m, hx⟩ := hasDict_ex z
      have ee : e.hasDict = true := by
        rcases List.mem_append.mp m with m | m
        · rw [(pu_no n x (ha x m)).1] at hx
          cases hx
        · rcases List.mem_cons.mp m with rfl | m
          · exact hx
          · rw [(pu_no n x (hb x m)).1] at hx
            cases hx
      refine lstlessAll_of fun d m => ?_
      rcases List.mem_append.mp m with m | m
      · exact (pu_no n d (ha d m)).2
      · rcases List.mem_cons.mp m with rfl | m
        · exact fe.ok ee
        · exact (pu_no n d (hb d m)).2
  | n + 1, _, .inr (.inr (.inl ⟨ds, rfl, hl, h⟩)) => (fit_tuple (n := 61) (B := max (gB n) (fB n)) (k := n + 2) (by omega) (fun d m => (pu_fit n d (h d m)).mono (Nat.le_max_right _ _) (by omega)) fun z => by
      rw [hasDictAll_no fun d m => (pu_no n d (h d m)).1] at z
      cases z).mono (Nat.le_refl _) (by omega)
  | n + 1, _, .inr (.inr (.inr ⟨ds, rfl, hl, h⟩)) => (fit_list (n := 61) (B := max (gB n) (fB n)) (k := n + 2) (by omega) (fun d m => (pu_fit n d (h d m)).mono (Nat.le_max_right _ _) (by omega)) (hasDictAll_no fun d m => (pu_no n d (h d m)).1)).mono (Nat.le_refl _) (by omega)
/-- a row of rests, by data -/
def restD (p : Int) : PyData → Bool
  | .int i => decide (0 ≤ i) && decide (i < p)
  | _ => false
def isRowD (p n : Int) : PyData → Bool
  | .tuple ds => decide ((ds.length : Int) = n) && ds.all (restD p)
  | _ => false
/-- a tuple's length is within bounds -/
def lenOk : PyData → Prop
  | .tuple ds => ds.length ≤ 1000
  | _ => True
theorem rep_int_inv {K : PySem.W.Frag} {H : Hp} {bad : Addr → Prop} {i : Int} {d : PyData} (h : Rep K H bad (.int i) d) : d = .int i := by cases h; rfl
theorem rep_tup {K : PySem.W.Frag} {H : Hp} {bad : Addr → Prop} {v : V} {ds : List PyData} (h : Rep K H bad v (.tuple ds)) : ∃ a xs, v = .ref a ∧ SqT K H a xs ∧ RepAll K H bad xs ds := by
  cases h with
  | tup h1 h2 => exact ⟨_, _, rfl, h1, h2⟩
theorem row_rep {K : PySem.W.Frag} {H : Hp} {bad : Addr → Prop} {a : Addr} {r : List Int} (h : SqT K H a (r.map V.int)) : Rep K H bad (.ref a) (rowD r) := .tup h (repAll_ints r)
end OC

set_option Elab.async false
set_option linter.all false
set_option maxRecDepth 100000
set_option maxHeartbeats 1000000
/-! slices and sums of tuples, whichever tuple is told -/
namespace OC
open PySem PySem.Spec PyProof.Rows L2
theorem cut_whole {xs : List V} {lo hi : Option Int} (h : HT.sIx xs.length 0 lo = 0 ∧ HT.sIx xs.length xs.length hi = xs.length) : cutV xs lo hi = xs := by
  unfold cutV
  rw [h.1, h.2, List.drop_zero, Nat.sub_zero, List.take_length]
def rSlB (K : PySem.W.Frag) : V → Option Int → Option Int → Hp → VK → Prop := fun x lo hi H Q => ∃ a xs, x = .ref a ∧ SqT K H a xs ∧ ∀ p H', Same H H' → SqT K H' p (cutV xs lo hi) → Q (.ref p) H'
theorem sl_tupB {X : Cx} : SlR X (rSlB X.K) := by
  intro pins s σ H x v vl vu lo hi sl Q I rx hs pl pu h
  obtain ⟨a, xs, ex, hx, q⟩ := h
  exact sl_tupA pins s σ H x v vl vu lo hi sl Q I rx hs pl pu ⟨a, xs, ex, hx, fun hw => q a H (Same.refl H) (by rw [cut_whole hw]; exact hx), fun _ p np => q p _ (same_upd np) (.inl (.inl upd_same))⟩
def rCatB (K : PySem.W.Frag) : R2 := fun x y H Q => ∃ a b xs ys, x = .ref a ∧ y = .ref b ∧ SqT K H a xs ∧ SqT K H b ys ∧ xs.length + ys.length ≤ sizeLine ∧ ∀ p H', Same H H' → SqT K H' p (xs ++ ys) → Q (.ref p) H'
theorem op_catB {X : Cx} : OpR X (binaryOp .Add) (rCatB X.K) := by
  intro pins s σ H x y v u Q I rx ry h
  obtain ⟨a, b, xs, ys, ex, ey, hx, hy, hz, q⟩ := h
  refine op_catA pins s σ H x y v u Q I rx ry ⟨a, b, xs, ys, ex, ey, hx, hy, hz, fun z => q b H (Same.refl H) ?_, fun _ z => q a H (Same.refl H) ?_, fun _ _ p np => q p _ (same_upd np) (.inl (.inl upd_same))⟩
  · rw [z, List.nil_append]
    exact hy
  · rw [z, List.append_nil]
    exact hx
theorem cut_to {xs : List V} {i : Int} (h0 : 0 ≤ i) (h1 : i ≤ xs.length) : cutV xs none (some i) = xs.take i.toNat := by
  unfold cutV
  have e : HT.sIx xs.length xs.length (some i) = min i.toNat xs.length := by
    have := HT.sIx_nat xs.length xs.length i.toNat
    rw [show ((i.toNat : Nat) : Int) = i by omega] at this
    exact this
  rw [e, HT.sIx_none, List.drop_zero, Nat.sub_zero]
  congr 1
  omega
theorem cut_from {xs : List V} {i : Int} (h0 : 0 ≤ i) (h1 : i ≤ xs.length) : cutV xs (some i) none = xs.drop i.toNat := by
  unfold cutV
  have e : HT.sIx xs.length 0 (some i) = min i.toNat xs.length := by
    have := HT.sIx_nat xs.length 0 i.toNat
    rw [show ((i.toNat : Nat) : Int) = i by omega] at this
    exact this
  rw [e, HT.sIx_none, show min i.toNat xs.length = i.toNat by omega]
  exact List.take_of_length_le (by rw [List.length_drop]; omega)
/-- any cut is a sublist of neighbours -/
theorem cut_mem {xs : List V} {lo hi : Option Int} : ∃ i k, cutV xs lo hi = (xs.drop i).take k := ⟨_, _, rfl⟩
section
variable {K : PySem.W.Frag} {H : Hp} {bad : Addr → Prop}
theorem repAll_take : ∀ {xs : List V} {ds : List PyData} (k : Nat), RepAll K H bad xs ds → RepAll K H bad (xs.take k) (ds.take k)
  | _, _, 0, _ => .nil
  | _, _, _ + 1, .nil => .nil
  | _, _, k + 1, .cons h t => .cons h (repAll_take k t)
theorem repAll_drop : ∀ {xs : List V} {ds : List PyData} (k : Nat), RepAll K H bad xs ds → RepAll K H bad (xs.drop k) (ds.drop k)
  | _, _, 0, h => h
  | _, _, _ + 1, .nil => .nil
  | _, _, k + 1, .cons _ t => repAll_drop k t
theorem repAll_rev {xs : List V} {ds : List PyData} (h : RepAll K H bad xs ds) : RepAll K H bad xs.reverse ds.reverse := by
  induction ds generalizing xs with
  | nil => cases h; exact .nil
  | cons d r ih =>
    cases h with
    | cons h1 h2 =>
      rw [List.reverse_cons, List.reverse_cons]
      exact repAll_append (ih h2) (.cons h1 .nil)
end
mutual
theorem rep_weak {K : PySem.W.Frag} {b1 b2 : Addr → Prop} {H : Hp} (e : ∀ a, b2 a → b1 a) : ∀ (d : PyData) (v : V), Rep K H b1 v d → Rep K H b2 v d
  | .none, _, h => by cases h; exact .non
  | .bool b, _, h => by cases h; exact .bl b
  | .int i, _, h => by cases h; exact .int i
  | .str x, _, h => by cases h; exact .str x
  | .list ds, _, h => by
    cases h with
    | lst hs hb ha => exact .lst hs (fun z => hb (e _ z)) (repAll_weak e ds _ ha)
  | .tuple ds, _, h => by
    cases h with
    | tup hs ha => exact .tup hs (repAll_weak e ds _ ha)
  | .dict _, _, h => by
    cases h with
    | dct hs hf => exact .dct hs hf
theorem repAll_weak {K : PySem.W.Frag} {b1 b2 : Addr → Prop} {H : Hp} (e : ∀ a, b2 a → b1 a) : ∀ (ds : List PyData) (vs : List V), RepAll K H b1 vs ds → RepAll K H b2 vs ds
  | [], _, h => by cases h; exact .nil
  | d :: ds, _, h => by
    cases h with
    | cons h1 h2 => exact .cons (rep_weak e d _ h1) (repAll_weak e ds _ h2)
end
/-- a pure thing holds no list: it is a thing whatever is bad, and stays as tuples do -/
theorem rep_pure {K : PySem.W.Frag} {b1 b2 : Addr → Prop} {H H' : Hp} (t : Tk H H') : ∀ (n : Nat) (d : PyData) (v : V), Pu n d → Rep K H b1 v d → Rep K H' b2 v d
  | 0, _, _, ⟨i, e, _⟩, h => by
    subst e
    cases h
    exact .int i
  | n + 1, _, _, ⟨ds, e, _, hp⟩, h => by
    subst e
    cases h with
    | tup hs ha =>
      refine .tup (t _ _ _ hs) ?_
      have go : ∀ (ds : List PyData) (xs : List V), (∀ x ∈ ds, Pu n x) → RepAll K H b1 xs ds → RepAll K H' b2 xs ds := by
        intro ds
        induction ds with
        | nil => intro xs _ h; cases h; exact .nil
        | cons d r ih =>
          intro xs hp h
          cases h with
          | cons h1 h2 => exact .cons (rep_pure t n d _ (hp d List.mem_cons_self) h1) (ih _ (fun x hx => hp x (List.mem_cons_of_mem _ hx)) h2)
      exact go ds _ hp ha
theorem repAll_pure {K : PySem.W.Frag} {b1 b2 : Addr → Prop} {H H' : Hp} (t : Tk H H') (n : Nat) : ∀ (ds : List PyData) (xs : List V), (∀ x ∈ ds, Pu n x) → RepAll K H b1 xs ds → RepAll K H' b2 xs ds
  | [], _, _, h => by cases h; exact .nil
  | d :: r, _, hp, h => by
    cases h with
    | cons h1 h2 => exact .cons (rep_pure t n d _ (hp d List.mem_cons_self) h1) (repAll_pure t n r _ (fun x hx => hp x (List.mem_cons_of_mem _ hx)) h2)
end OC

set_option Elab.async false
set_option linter.all false
set_option maxRecDepth 100000
namespace OC
open PySem PySem.Spec PyProof.Rows L2
def topS (i : Nat) : Stmt := PySem.Challenge.pw_opencalls_k02_rows_judged.main.body.getD i (.Pass ⟨0, 0, 0, 0⟩)
abbrev s_is_number : Stmt := topS 1
abbrev N_is_number : List Str := ["thing"]
theorem sc_is_number : FnScope N_is_number ["thing"] (defScope s_is_number) := ⟨rfl, rfl, rfl, by decide +kernel, rfl, by decide +kernel, by decide +kernel⟩
abbrev s_is_rest : Stmt := topS 2
abbrev N_is_rest : List Str := ["p", "thing"]
theorem sc_is_rest : FnScope N_is_rest ["p", "thing"] (defScope s_is_rest) := ⟨rfl, rfl, rfl, by decide +kernel, rfl, by decide +kernel, by decide +kernel⟩
abbrev s_is_row : Stmt := topS 4
abbrev N_is_row : List Str := ["p", "n", "thing", "part"]
theorem sc_is_row : FnScope N_is_row ["p", "n", "thing"] (defScope s_is_row) := ⟨rfl, rfl, rfl, by decide +kernel, rfl, by decide +kernel, by decide +kernel⟩
abbrev s__law_deck : Stmt := topS 6
abbrev N__law_deck : List Str := ["_law_script", "_law_cell"]
theorem sc__law_deck : FnScope N__law_deck ["_law_script"] (defScope s__law_deck) := ⟨rfl, rfl, rfl, by decide +kernel, rfl, by decide +kernel, by decide +kernel⟩
abbrev s__law_draw : Stmt := topS 7
abbrev N__law_draw : List Str := ["_law_deck_here", "_law_many", "_law_cell", "_law_place"]
theorem sc__law_draw : FnScope N__law_draw ["_law_deck_here", "_law_many"] (defScope s__law_draw) := ⟨rfl, rfl, rfl, by decide +kernel, rfl, by decide +kernel, by decide +kernel⟩
abbrev s__law_whole : Stmt := topS 8
abbrev N__law_whole : List Str := ["_law_thing"]
theorem sc__law_whole : FnScope N__law_whole ["_law_thing"] (defScope s__law_whole) := ⟨rfl, rfl, rfl, by decide +kernel, rfl, by decide +kernel, by decide +kernel⟩
abbrev s__law_same : Stmt := topS 9
abbrev N__law_same : List Str := ["_law_found", "_law_due_here", "_law_one", "_law_other"]
theorem sc__law_same : FnScope N__law_same ["_law_found", "_law_due_here"] (defScope s__law_same) := ⟨rfl, rfl, rfl, by decide +kernel, rfl, by decide +kernel, by decide +kernel⟩
abbrev s__law_prime : Stmt := topS 10
abbrev N__law_prime : List Str := ["_law_deck_here"]
theorem sc__law_prime : FnScope N__law_prime ["_law_deck_here"] (defScope s__law_prime) := ⟨rfl, rfl, rfl, by decide +kernel, rfl, by decide +kernel, by decide +kernel⟩
abbrev s__law_row : Stmt := topS 11
abbrev N__law_row : List Str := ["_law_deck_here", "_law_p", "_law_n", "_law_place"]
theorem sc__law_row : FnScope N__law_row ["_law_deck_here", "_law_p", "_law_n"] (defScope s__law_row) := ⟨rfl, rfl, rfl, by decide +kernel, rfl, by decide +kernel, by decide +kernel⟩
abbrev s__law_odd : Stmt := topS 12
abbrev N__law_odd : List Str := ["_law_deck_here", "_law_p", "_law_some"]
theorem sc__law_odd : FnScope N__law_odd ["_law_deck_here", "_law_p"] (defScope s__law_odd) := ⟨rfl, rfl, rfl, by decide +kernel, rfl, by decide +kernel, by decide +kernel⟩
abbrev s__law_bent : Stmt := topS 13
abbrev N__law_bent : List Str := ["_law_deck_here", "_law_p", "_law_thing", "_law_deep", "_law_at", "_law_way", "_law_more", "_law_some"]
theorem sc__law_bent : FnScope N__law_bent ["_law_deck_here", "_law_p", "_law_thing", "_law_deep"] (defScope s__law_bent) := ⟨rfl, rfl, rfl, by decide +kernel, rfl, by decide +kernel, by decide +kernel⟩
abbrev s__law_due : Stmt := topS 14
abbrev N__law_due : List Str := ["_law_p", "_law_n", "_law_thing", "_law_one"]
theorem sc__law_due : FnScope N__law_due ["_law_p", "_law_n", "_law_thing"] (defScope s__law_due) := ⟨rfl, rfl, rfl, by decide +kernel, rfl, by decide +kernel, by decide +kernel⟩
abbrev s__law_right : Stmt := topS 15
abbrev N__law_right : List Str := ["_law_p", "_law_n", "_law_thing", "_law_kept", "_law_many"]
theorem sc__law_right : FnScope N__law_right ["_law_p", "_law_n", "_law_thing"] (defScope s__law_right) := ⟨rfl, rfl, rfl, by decide +kernel, rfl, by decide +kernel, by decide +kernel⟩
abbrev s_law : Stmt := topS 16
abbrev N_law : List Str := ["_law_script", "_law_deck_here", "_law_turn", "_law_p", "_law_n", "_law_row_here", "_law_things", "_law_k", "_law_thing"]
theorem sc_law : FnScope N_law ["_law_script"] (defScope s_law) := ⟨rfl, rfl, rfl, by decide +kernel, rfl, by decide +kernel, by decide +kernel⟩
structure Top (K : PySem.W.Frag) (mg : Str → Option Value) : Prop where
  b_abs : mg "abs" = none
  b_all : mg "all" = none
  b_bool : mg "bool" = none
  b_int : mg "int" = none
  b_isinstance : mg "isinstance" = none
  b_len : mg "len" = none
  b_list : mg "list" = none
  b_max : mg "max" = none
  b_range : mg "range" = none
  b_repr : mg "repr" = none
  b_str : mg "str" = none
  b_tuple : mg "tuple" = none
  b_zip : mg "zip" = none
  d_is_number : Df K mg "is_number" s_is_number ["thing"]
  d_is_rest : Df K mg "is_rest" s_is_rest ["p", "thing"]
  d_is_row : Df K mg "is_row" s_is_row ["p", "n", "thing"]
  d__law_deck : Df K mg "_law_deck" s__law_deck ["_law_script"]
  d__law_draw : Df K mg "_law_draw" s__law_draw ["_law_deck_here", "_law_many"]
  d__law_whole : Df K mg "_law_whole" s__law_whole ["_law_thing"]
  d__law_same : Df K mg "_law_same" s__law_same ["_law_found", "_law_due_here"]
  d__law_prime : Df K mg "_law_prime" s__law_prime ["_law_deck_here"]
  d__law_row : Df K mg "_law_row" s__law_row ["_law_deck_here", "_law_p", "_law_n"]
  d__law_odd : Df K mg "_law_odd" s__law_odd ["_law_deck_here", "_law_p"]
  d__law_bent : Df K mg "_law_bent" s__law_bent ["_law_deck_here", "_law_p", "_law_thing", "_law_deep"]
  d__law_due : Df K mg "_law_due" s__law_due ["_law_p", "_law_n", "_law_thing"]
  d__law_right : Df K mg "_law_right" s__law_right ["_law_p", "_law_n", "_law_thing"]
abbrev Bad (d c : Addr) : Addr → Prop := fun a => a = d ∨ a = c
theorem Deck.fresh {H : Hp} {d c p : Addr} {t : Int} (D : Deck H d c t) (n : H p = none) : ¬ Bad d c p := by
  obtain ⟨hd, ⟨cells, h1, h2⟩, _, t0⟩ := D
  rintro (z | z)
  · subst z; rw [hd] at n; cases n
  · subst z; rw [h1] at n; cases n
def L0 : PyData → Prop := fun _ => False
theorem Stays.kept2 {bad : Addr → Prop} {d c : Addr} {t : Int} {H H' : Hp} (D : Deck H d c t) (k : Kept d c H H') (bd : bad d) (bc : bad c) : Stays bad H H' := by
  have s := Stays.kept D k
  refine ⟨s.t, s.d, fun a xs h n => k a _ h (fun z => n (by rw [z]; exact bd)) (fun z => n (by rw [z]; exact bc))⟩
section
variable {P : Program} {w : World} {K : PySem.W.Frag} {mg : Str → Option Value} {base : Heap}
def sp_whole (K : PySem.W.Frag) : Sp := fun vs H Q _ => ∃ (v : V) (k : Kd), vs = [v] ∧ KdOf K H v k ∧ Q (.bl (decide (k = .int))) H
theorem ok__law_whole (T : Top K mg) : Ok P w K mg base 1 "_law_whole" ["_law_thing"] (sp_whole K) := by
  refine T.d__law_whole.ok sc__law_whole (fun vs H Q E h => ?_) (fun f cdv A outer s H vs Q E hr h => ?_)
  · obtain ⟨v, k, rfl, _⟩ := h
    rfl
  · obtain ⟨v, k, rfl, ty, q⟩ := h
    refine ⟨_, ((pss_one (ps_ret (pe_and (pe_callB call_isi (by rfl) T.b_isinstance (by decide +kernel) (pa_cons (pv 0) (pa_cons (pe_bltn (v := .ty "int") (u := .type "int") (by rfl) T.b_int (by decide +kernel) rfl) pa_nil))) (pe_one (pe_not (pe_callB call_isi (by rfl) T.b_isinstance (by decide +kernel) (pa_cons (pv 0) (pa_cons (pe_bltn (v := .ty "bool") (u := .type "bool") (by rfl) T.b_bool (by decide +kernel) rfl) pa_nil))))))))), ?_⟩
    refine ⟨v, rfl, v, .ty "int", _, _, _, rfl, .ty "int", ty, kit_int k, _, rfl, ?_⟩
    cases k <;> first | exact q | exact ⟨v, rfl, v, .ty "bool", _, _, _, rfl, .ty "bool", ty, kit_bool _, _, rfl, q⟩

theorem ok_is_number (T : Top K mg) : Ok P w K mg base 1 "is_number" ["thing"] (sp_whole K) := by
  refine T.d_is_number.ok sc_is_number (fun vs H Q E h => ?_) (fun f cdv A outer s H vs Q E hr h => ?_)
  · obtain ⟨v, k, rfl, _⟩ := h
    rfl
  · obtain ⟨v, k, rfl, ty, q⟩ := h
    refine ⟨_, ((pss_one (ps_ret (pe_and (pe_callB call_isi (by rfl) T.b_isinstance (by decide +kernel) (pa_cons (pv 0) (pa_cons (pe_bltn (v := .ty "int") (u := .type "int") (by rfl) T.b_int (by decide +kernel) rfl) pa_nil))) (pe_one (pe_not (pe_callB call_isi (by rfl) T.b_isinstance (by decide +kernel) (pa_cons (pv 0) (pa_cons (pe_bltn (v := .ty "bool") (u := .type "bool") (by rfl) T.b_bool (by decide +kernel) rfl) pa_nil))))))))), ?_⟩
    refine ⟨v, rfl, v, .ty "int", _, _, _, rfl, .ty "int", ty, kit_int k, _, rfl, ?_⟩
    cases k <;> first | exact q | exact ⟨v, rfl, v, .ty "bool", _, _, _, rfl, .ty "bool", ty, kit_bool _, _, rfl, q⟩

def sp_deck (K : PySem.W.Frag) : Sp := fun vs H Q _ => ∃ (a : Addr) (ns : List Int), vs = [.ref a] ∧ SqL K H a (ns.map V.int) ∧ ns.length ≤ 63 ∧ ∀ H' d c, Same H H' → Deck H' d c 0 → H d = none → H c = none → Q (.ref d) H'
theorem ok__law_deck (T : Top K mg) : Ok P w K mg base 1 "_law_deck" ["_law_script"] (sp_deck K) := by
  refine T.d__law_deck.ok sc__law_deck (fun vs H Q E h => ?_) (fun f cdv A outer s H vs Q E hr h => ?_)
  · obtain ⟨a, ns, rfl, _⟩ := h
    rfl
  · obtain ⟨a, ns, rfl, hS, hl, q⟩ := h
    refine ⟨_, ((pss_one (ps_ret (pe_lst (pa_cons (pe_lc (own := [("_law_cell", 1)]) (g := gName 1) (by rfl) sc__law_deck.nd (pi_list (pe_slice sl_list (pv 0) po_none (po_some pe_int))) (blkOk_by (own := [("_law_cell", 1)]) (N := N__law_deck) (sc := defScope s__law_deck) (by decide +kernel)) (fun _ _ _ _ _ => (pg_name (i := 1) sc__law_deck.nd rfl (.inl rfl))) (fun _ _ _ _ _ => pts_nil) (fun _ _ _ _ _ => (pe_callB call_abs (by rfl) T.b_abs (by decide +kernel) (pa_cons (pv 1) pa_nil)))) (pa_cons pe_int pa_nil)))))), ?_⟩
    refine ⟨.ref a, rfl, 63, rfl, a, ns.map V.int, rfl, hS, fun l nl => ?_⟩
    have ec : cutV (ns.map V.int) none (some 63) = ns.map V.int := by
      unfold cutV
      rw [HT.sIx_none, show HT.sIx (ns.map V.int).length (ns.map V.int).length (some 63) = min 63 (ns.map V.int).length from HT.sIx_nat _ _ 63]
      rw [List.drop_zero]
      exact List.take_of_length_le (by rw [List.length_map]; omega)
    rw [ec]
    have s1 : Same H (upd H l (.lst (ns.map V.int))) := same_upd nl
    refine ⟨l, rfl, ⟨_, .inl (.inl upd_same)⟩, fun D nD => ?_⟩
    have nl' : H D = none := s1.free nD
    have nDl : l ≠ D := ne_of_none upd_same nD
    refine lc_list (xs := ns.map V.int) (fun i H' => Same H H' ∧ H' l = some (.lst (ns.map V.int)) ∧ H' D = some (.lst ((ns.take i).map fun x => V.int (if x < 0 then -x else x)))) ⟨same_mut s1 nl', ?_, ?_⟩ (fun i H' _ hP => .inl (.inl hP.2.1)) (fun i x H' hx hP => ?_) (fun H' hP => ?_)
    · rw [upd_ne nDl, upd_same]
    · rw [upd_same]; rfl
    · obtain ⟨sm, e1, e2⟩ := hP
      rw [List.getElem?_map] at hx
      cases hn : ns[i]? with
      | none => rw [hn] at hx; cases hx
      | some z =>
        rw [hn] at hx
        have ez : x = V.int z := (Option.some.inj hx).symm
        subst ez
        refine ⟨rfl, .int z, rfl, z, rfl, _, e2, ?_, same_mut sm nl', ?_, ?_⟩
        · rw [List.length_map, List.length_take]
          exact Nat.lt_of_le_of_lt (Nat.min_le_right _ _) (small1000 (by omega))
        · rw [upd_ne nDl]; exact e1
        · rw [upd_same, List.take_add_one, hn, List.map_append]
          rfl
    · obtain ⟨sm, e1, e2⟩ := hP
      rw [List.length_map, List.take_length] at e2
      refine ⟨(by show 2 ≤ sizeLine; decide), fun p np => ?_⟩
      have sp : Same H' (upd H' p (.lst [.ref D, .int 0])) := same_upd np
      refine q _ p D (sm.trans sp) ⟨upd_same, ⟨ns.map fun x => if x < 0 then -x else x, ?_, fun x hx => ?_, by rw [List.length_map]; exact hl⟩, fun z => ?_, by decide⟩ (sm.free np) nl'
      · rw [sp _ _ e2, List.map_map]
        rfl
      · obtain ⟨y, _, rfl⟩ := List.mem_map.mp hx
        by_cases hy : y < 0
        · rw [if_pos hy]; omega
        · rw [if_neg hy]; omega
      · subst z
        rw [e2] at np
        cases np

def sp_draw : Sp := fun vs H Q _ => ∃ (d c : Addr) (t m : Int), vs = [.ref d, .int m] ∧ Deck H d c t ∧ t < 1000000 ∧ 0 < m ∧ m < 1073741824 ∧ ∀ H' r, Kept d c H H' → Deck H' d c (t + 1) → 0 ≤ r → r < m → Q (.int r) H'
theorem ok__law_draw (T : Top K mg) : Ok P w K mg base 1 "_law_draw" ["_law_deck_here", "_law_many"] sp_draw := by
  refine T.d__law_draw.ok sc__law_draw (fun vs H Q E h => ?_) (fun f cdv A outer s H vs Q E hr h => ?_)
  · obtain ⟨d, c, t, m, rfl, _⟩ := h
    rfl
  · obtain ⟨d, c, t, m, rfl, ⟨hd, ⟨cells, hc, hp, hl⟩, hne, ht0⟩, ht, hm0, hm1, q⟩ := h
    refine ⟨_, ((pss_cons (ps_asg (pe_op op_add (pe_ix ix_list (pv 0) pe_int (fun _ _ => rfl)) pe_int) (pg_sub (pv 0) pe_int set_list))
      (pss_cons (ps_set (i := 2) sc__law_draw.nd rfl (.inl rfl) pe_int)
      (pss_cons (ps_set (i := 3) sc__law_draw.nd rfl (.inl rfl) (pe_un un_neg pe_int))
      (pss_cons (ps_if (pt_cmpR op_gt (pe_callB call_len_seq (by rfl) T.b_len (by decide +kernel) (pa_cons (pe_ix ix_list (pv 0) pe_int (fun _ _ => rfl)) pa_nil)) pe_int (nomark _))
        (pss_cons (ps_set (i := 3) sc__law_draw.nd rfl (.inl rfl) (pe_op op_mod (pe_ix ix_list (pv 0) pe_int (fun _ _ => rfl)) (pe_callB call_len_seq (by rfl) T.b_len (by decide +kernel) (pa_cons (pe_ix ix_list (pv 0) pe_int (fun _ _ => rfl)) pa_nil))))
        (pss_one (ps_set (i := 2) sc__law_draw.nd rfl (.inl rfl) (pe_ix ix_list (pe_ix ix_list (pv 0) pe_int (fun _ _ => rfl)) (pv 3) (fun _ _ => rfl)))))
        pss_nil)
      (pss_cons (ps_if (pt_cmpR op_ge (pv 2) (pe_op op_pow pe_int pe_int) (nomark _))
        (pss_cons (ps_asg (pe_op op_fdiv (pv 2) (pv 1)) (pg_sub (pe_ix ix_list (pv 0) pe_int (fun _ _ => rfl)) (pv 3) set_list))
        (pss_one (ps_ret (pe_op op_mod (pv 2) (pv 1)))))
        pss_nil)
      (pss_one (ps_ret (pe_op op_mod (pe_op op_fdiv (pe_op op_mod (pe_op op_pow (pe_op op_add (pe_op op_add (pe_op op_mod (pv 2) pe_int) (pe_op op_mul pe_int (pe_ix ix_list (pv 0) pe_int (fun _ _ => rfl)))) pe_int) pe_int) pe_int) pe_int) (pv 1)))))))))), ?_⟩
    refine ⟨.ref d, rfl, d, _, 1, .int t, rfl, rfl, .inl (.inl hd), rfl, t, 1, rfl, rfl, .ref d, rfl, d, _, 1, 1, rfl, rfl, hd, rfl, ?_⟩
    have hd1 : (upd H d (.lst ([V.ref c, .int t].set 1 (.int (t + 1))))) d = some (.lst [.ref c, .int (t + 1)]) := upd_same
    have hc1 : (upd H d (.lst ([V.ref c, .int t].set 1 (.int (t + 1))))) c = some (.lst (cells.map V.int)) := by
      rw [upd_ne hne]; exact hc
    have k1 : Kept d c H (upd H d (.lst ([V.ref c, .int t].set 1 (.int (t + 1))))) := fun b o h n _ => by
      rw [upd_ne n]; exact h
    generalize upd H d (.lst ([V.ref c, .int t].set 1 (.int (t + 1)))) = H1 at hd1 hc1 k1 ⊢
    have D1 : Deck H1 d c (t + 1) := ⟨hd1, ⟨cells, hc1, hp, hl⟩, hne, by omega⟩
    refine ⟨1, rfl, .ref d, rfl, d, _, 0, .ref c, rfl, rfl, .inl (.inl hd1), rfl, c, _, rfl, .inl (.inl (.inl hc1)), _, 0, rfl, rfl, _, rfl, ite2 (fun e => ?_) (fun e => ?_)⟩
    · have e0 : (0 : Int) < ((cells.map V.int).length : Int) := of_decide_eq_true e
      rw [List.length_map] at e0
      have z0 : 0 ≤ (t + 1) % (cells.length : Int) := Int.emod_nonneg _ (by omega)
      have z1 : (t + 1) % (cells.length : Int) < (cells.length : Int) := Int.emod_lt_of_pos _ e0
      obtain ⟨x, hx, hx2, hx3⟩ := at_int z0 z1
      have x0 := hp x hx
      refine ⟨.ref d, rfl, d, _, 1, .int (t + 1), rfl, rfl, .inl (.inl hd1), rfl, .ref d, rfl, d, _, 0, .ref c, rfl, rfl, .inl (.inl hd1), rfl, c, _, rfl, .inl (.inl (.inl hc1)), t + 1, (cells.length : Int), rfl, by rw [List.length_map], e0, ?_⟩
      refine ⟨.ref d, rfl, d, _, 0, .ref c, rfl, rfl, .inl (.inl hd1), rfl, .int ((t + 1) % (cells.length : Int)), rfl, c, _, _, .int x, rfl, rfl, .inl (.inl hc1), hx3, ?_⟩
      refine ⟨.int x, rfl, 10, 18, rfl, rfl, ⟨by decide, by decide, by decide⟩, _, _, rfl, rfl, _, rfl, ite2 (fun e => ?_) (fun e => ?_)⟩
      · refine ⟨.int x, rfl, .int m, rfl, x, m, rfl, rfl, ⟨hm0, hm1⟩, .ref d, rfl, d, _, 0, .ref c, rfl, rfl, .inl (.inl hd1), rfl, .int ((t + 1) % (cells.length : Int)), rfl, c, _, _, _, rfl, rfl, hc1, ix_nat z0 (by rw [List.length_map]; exact z1), ?_⟩
        refine ⟨.int x, rfl, .int m, rfl, x, m, rfl, rfl, hm0, q _ _ (k1.trans fun b o h _ n => ?_) ⟨?_, ⟨cells.set ((t + 1) % (cells.length : Int)).toNat (x / m), ?_, fun y hy => ?_, ?_⟩, hne, by omega⟩ (Int.emod_nonneg _ (by omega)) (Int.emod_lt_of_pos _ hm0)⟩
        · rw [upd_ne n]; exact h
        · rw [upd_ne (Ne.symm hne)]; exact hd1
        · rw [upd_same, List.map_set]
        · rcases List.mem_or_eq_of_mem_set hy with h | h
          · exact hp y h
          · rw [h]; exact Int.ediv_nonneg x0 (by omega)
        · rw [List.length_set]; exact hl
      · refine ⟨.int x, rfl, x, 2147483587, rfl, rfl, (show (0 : Int) < 2147483587 by decide), .ref d, rfl, d, _, 1, .int (t + 1), rfl, rfl, .inl (.inl hd1), rfl, 7919, t + 1, rfl, rfl, .inl ⟨by decide, by decide⟩, _, _, rfl, rfl, _, 1, rfl, rfl, _, 5, rfl, rfl, ⟨by decide, by decide, ?_⟩, _, 2147483647, rfl, rfl, (show (0 : Int) < 2147483647 by decide), _, 7, rfl, rfl, ⟨by decide, by decide⟩, .int m, rfl, _, m, rfl, rfl, hm0, q _ _ k1 D1 (Int.emod_nonneg _ (by omega)) (Int.emod_lt_of_pos _ hm0)⟩
        have := Int.emod_lt_of_pos x (show (0 : Int) < 2147483587 by decide)
        have := Int.emod_nonneg x (show (2147483587 : Int) ≠ 0 by decide)
        omega
    · refine ⟨.int 0, rfl, 10, 18, rfl, rfl, ⟨by decide, by decide, by decide⟩, _, _, rfl, rfl, _, rfl, ite2 (fun e => absurd (of_decide_eq_true e) (by decide)) (fun e => ?_)⟩
      refine ⟨.int 0, rfl, 0, 2147483587, rfl, rfl, (show (0 : Int) < 2147483587 by decide), .ref d, rfl, d, _, 1, .int (t + 1), rfl, rfl, .inl (.inl hd1), rfl, 7919, t + 1, rfl, rfl, .inl ⟨by decide, by decide⟩, _, _, rfl, rfl, _, 1, rfl, rfl, _, 5, rfl, rfl, ⟨by decide, by decide, ?_⟩, _, 2147483647, rfl, rfl, (show (0 : Int) < 2147483647 by decide), _, 7, rfl, rfl, ⟨by decide, by decide⟩, .int m, rfl, _, m, rfl, rfl, hm0, q _ _ k1 D1 (Int.emod_nonneg _ (by omega)) (Int.emod_lt_of_pos _ hm0)⟩
      omega

theorem same_step (T : Top K mg) {k : Nat} {L : PyData → Prop} (O__law_same : Ok P w K mg base (k + 1) "_law_same" ["_law_found", "_law_due_here"] (sp_same K L)) : Ok P w K mg base (k + 2) "_law_same" ["_law_found", "_law_due_here"] (sp_same K (Lv L)) := by
  have O__law_whole := ok__law_whole (P := P) (w := w) (base := base) T
  refine T.d__law_same.ok sc__law_same (fun vs H Q E h => ?_) (fun f cdv A outer s H vs Q E hr h => ?_)
  · obtain ⟨v, u, d, rfl, _⟩ := h
    rfl
  · obtain ⟨v, u, d, rfl, hv, hu, hL, q⟩ := h
    refine ⟨_, ((pss_cons (ps_if (pt_val (pe_callB call_isi (by rfl) T.b_isinstance (by decide +kernel) (pa_cons (pv 1) (pa_cons (pe_bltn (v := .ty "tuple") (u := .type "tuple") (by rfl) T.b_tuple (by decide +kernel) rfl) pa_nil))))
        (pss_cons (ps_if (PW.pt (pw_or (pt_not (pt_val (pe_callB call_isi (by rfl) T.b_isinstance (by decide +kernel) (pa_cons (pv 0) (pa_cons (pe_bltn (v := .ty "tuple") (u := .type "tuple") (by rfl) T.b_tuple (by decide +kernel) rfl) pa_nil))))) (pw_or1 (pt_cmpR op_ne (pe_callB call_len_seq (by rfl) T.b_len (by decide +kernel) (pa_cons (pv 0) pa_nil)) (pe_callB call_len_seq (by rfl) T.b_len (by decide +kernel) (pa_cons (pv 1) pa_nil)) (nomark _)))))
          (pss_one (ps_ret pe_bl))
          pss_nil)
        (pss_one (ps_ret (pe_callB (cr_all (by rfl)) (by rfl) T.b_all (by decide +kernel) (pa_cons (pe_lc (own := [("_law_one", 2), ("_law_other", 3)]) (g := gTup K 2 (gCons (gName 2) (gCons (gName 3) gNil))) (by rfl) sc__law_same.nd (RZ.pi_zipA (by rfl) T.b_zip (pa_cons (pv 0) (pa_cons (pv 1) pa_nil))) (blkOk_by (own := [("_law_one", 2), ("_law_other", 3)]) (N := N__law_same) (sc := defScope s__law_same) (by decide +kernel)) (fun _ _ _ _ _ => (pg_tup (by rfl) (pgs_cons (pg_name (i := 2) sc__law_same.nd rfl (.inl rfl)) (pgs_cons (pg_name (i := 3) sc__law_same.nd rfl (.inl rfl)) pgs_nil)))) (fun _ _ _ _ _ => pts_nil) (fun _ _ _ _ _ => (pe_callO O__law_same (hr.mono (by omega)) (by rfl) (pa_cons (pv 2) (pa_cons (pv 3) pa_nil))))) pa_nil)))))
        pss_nil)
      (pss_cons (ps_if (pt_cmpR op_isN (pv 1) pe_non (nomark _))
        (pss_one (ps_ret (pe_cmpR op_isN (pv 0) pe_non (nomark _))))
        pss_nil)
      (pss_cons (ps_if (pt_val (pe_callB call_isi (by rfl) T.b_isinstance (by decide +kernel) (pa_cons (pv 1) (pa_cons (pe_bltn (v := .ty "bool") (u := .type "bool") (by rfl) T.b_bool (by decide +kernel) rfl) pa_nil))))
        (pss_one (ps_ret (pe_and (pe_callB call_isi (by rfl) T.b_isinstance (by decide +kernel) (pa_cons (pv 0) (pa_cons (pe_bltn (v := .ty "bool") (u := .type "bool") (by rfl) T.b_bool (by decide +kernel) rfl) pa_nil))) (pe_one (pe_cmpR op_eq (pv 0) (pv 1) (nomark _))))))
        pss_nil)
      (pss_cons (ps_if (pt_val (pe_callB call_isi (by rfl) T.b_isinstance (by decide +kernel) (pa_cons (pv 1) (pa_cons (pe_bltn (v := .ty "str") (u := .type "str") (by rfl) T.b_str (by decide +kernel) rfl) pa_nil))))
        (pss_one (ps_ret (pe_and (pe_callB call_isi (by rfl) T.b_isinstance (by decide +kernel) (pa_cons (pv 0) (pa_cons (pe_bltn (v := .ty "str") (u := .type "str") (by rfl) T.b_str (by decide +kernel) rfl) pa_nil))) (pe_one (pe_cmpR op_eq (pv 0) (pv 1) (nomark _))))))
        pss_nil)
      (pss_one (ps_ret (pe_and (pe_callO O__law_whole (hr.mono (by omega)) (by rfl) (pa_cons (pv 0) pa_nil)) (pe_one (pe_cmpR op_eq (pv 0) (pv 1) (nomark _))))))))))), ?_⟩
    have tv := dp_kd hv
    have tu := dp_kd hu
    refine ⟨u, rfl, u, .ty "tuple", _, _, _, rfl, .ty "tuple", tu, kit_tuple _, _, rfl, ?_⟩
    rcases hL with hs | ⟨ds, rfl, hsz, hds⟩
    · cases d with
      | none =>
        cases hv
        cases hu
        exact iteF ⟨.non, rfl, rfl, _, rfl, iteT ⟨.non, rfl, rfl, q H (Same.refl H)⟩⟩
      | bool b =>
        cases hv
        cases hu
        refine iteF ⟨.bl b, rfl, rfl, _, rfl, iteF ?_⟩
        refine ⟨.bl b, rfl, .bl b, .ty "bool", _, _, _, rfl, .ty "bool", tu, kit_bool _, _, rfl, iteT ?_⟩
        refine ⟨.bl b, rfl, .bl b, .ty "bool", _, _, _, rfl, .ty "bool", tv, kit_bool _, _, rfl, iteT ⟨.bl b, rfl, .bl b, rfl, rfl, ?_⟩⟩
        rw [decide_eq_true rfl]
        exact q H (Same.refl H)
      | int i =>
        cases hv
        cases hu
        refine iteF ⟨.int i, rfl, rfl, _, rfl, iteF ?_⟩
        refine ⟨.int i, rfl, .int i, .ty "bool", _, _, _, rfl, .ty "bool", tu, kit_bool _, _, rfl, iteF ?_⟩
        refine ⟨.int i, rfl, .int i, .ty "str", _, _, _, rfl, .ty "str", tu, kit_str _, _, rfl, iteF ?_⟩
        refine ⟨.int i, rfl, .int i, .int, rfl, kd_int i, _, rfl, iteT ⟨.int i, rfl, .int i, rfl, rfl, ?_⟩⟩
        rw [decide_eq_true rfl]
        exact q H (Same.refl H)
      | str x =>
        cases hv
        cases hu
        refine iteF ⟨.str x, rfl, rfl, _, rfl, iteF ?_⟩
        refine ⟨.str x, rfl, .str x, .ty "bool", _, _, _, rfl, .ty "bool", tu, kit_bool _, _, rfl, iteF ?_⟩
        refine ⟨.str x, rfl, .str x, .ty "str", _, _, _, rfl, .ty "str", tu, kit_str _, _, rfl, iteT ?_⟩
        refine ⟨.str x, rfl, .str x, .ty "str", _, _, _, rfl, .ty "str", tv, kit_str _, _, rfl, iteT ⟨.str x, rfl, .str x, rfl, rfl, ?_⟩⟩
        rw [decide_eq_true rfl]
        exact q H (Same.refl H)
      | list ds => exact hs.elim
      | tuple ds => exact hs.elim
      | dict ds => exact hs.elim
    · cases hv with
      | @tup a xs _ hA hxs =>
        cases hu with
        | @tup b ys _ hB hys =>
          have lx := dpAll_len hxs
          have ly := dpAll_len hys
          have lxy : xs.length = ys.length := lx.trans ly.symm
          refine iteT ⟨.ref a, rfl, .ref a, .ty "tuple", _, _, _, rfl, .ty "tuple", tv, kit_tuple _, _, rfl, iteF ⟨.ref a, rfl, a, xs, rfl, .inr hA, .ref b, rfl, b, ys, rfl, .inr hB, rfl, _, rfl, ?_⟩⟩
          rw [decide_eq_true (show V.int ((xs.length : Nat) : Int) = V.int ((ys.length : Nat) : Int) by rw [lxy])]
          refine iteF ⟨.ref a, rfl, .ref b, rfl, a, b, xs, ys, rfl, .inr ⟨hA, hB, fun D nD => ?_⟩⟩
          have ln : xs.length = min xs.length ys.length := by omega
          refine lc_it (walk_zipT (K := K) (a := a) (b := b) ln) (fun i H' => Same H H' ∧ H' D = some (.lst ((List.replicate i true).map V.bl))) ⟨same_mut (Same.refl H) nD, upd_same⟩ (fun i H' _ hP => ⟨Same.tup hP.1 hA, Same.tup hP.1 hB⟩) (fun i x H1 H2 hi hP hY => ?_) (fun H' hP => ?_)
          · obtain ⟨Ta, x1, y1, rfl, nT, rfl, e1, e2⟩ := hY
            obtain ⟨sm, eD⟩ := hP
            have sT : Same H1 (upd H1 Ta (.tup [x1, y1])) := same_upd nT
            obtain ⟨d1, g1, m1, p1⟩ := dpAll_get hxs e1
            obtain ⟨d2, g2, m2, p2⟩ := dpAll_get hys e2
            have ed : d1 = d2 := Option.some.inj (g1.symm.trans g2)
            subst ed
            refine ⟨Ta, [x1, y1], rfl, .inl (.inl upd_same), rfl, x1, [y1], rfl, y1, [], rfl, rfl, rfl, x1, rfl, y1, rfl, x1, y1, d1, rfl, dp_same (sm.trans sT) _ _ p1, dp_same (sm.trans sT) _ _ p2, hds _ m1, fun H4 s4 => ⟨_, s4 _ _ (sT _ _ eD), ?_, same_mut ((sm.trans sT).trans s4) nD, ?_⟩⟩
            · rw [List.length_map, List.length_replicate]
              exact small1000 (by omega)
            · rw [upd_same, List.replicate_succ', List.map_append]
              rfl
          · obtain ⟨sm, eD⟩ := hP
            refine ⟨D, List.replicate xs.length true, rfl, .inl (.inl eD), ?_⟩
            rw [show (List.replicate xs.length true).all id = true from List.all_eq_true.mpr fun y hy => (List.eq_of_mem_replicate hy)]
            exact q H' sm
theorem ok_same2 (T : Top K mg) : Ok P w K mg base 3 "_law_same" ["_law_found", "_law_due_here"] (sp_same K (Lv (Lv L0))) :=
  same_step T (same_step T (ok_never T.d__law_same sc__law_same L0 (fun _ h => h) rfl))

def PR8 : List Int := [5, 7, 11, 101, 5, 13, 97, 23]
theorem pr8_bd : ∀ p ∈ PR8, 5 ≤ p ∧ p ≤ 101 := by decide +kernel
def sp_prime : Sp := fun vs H Q _ => ∃ (d c : Addr) (t : Int), vs = [.ref d] ∧ Deck H d c t ∧ t < 1000000 ∧ ∀ H' p, Kept d c H H' → Deck H' d c (t + 1) → p ∈ PR8 → Q (.int p) H'
theorem ok__law_prime (T : Top K mg) : Ok P w K mg base 2 "_law_prime" ["_law_deck_here"] sp_prime := by
  have O__law_draw := ok__law_draw (P := P) (w := w) (base := base) T
  refine T.d__law_prime.ok sc__law_prime (fun vs H Q E h => ?_) (fun f cdv A outer s H vs Q E hr h => ?_)
  · obtain ⟨d, c, t, rfl, _⟩ := h
    rfl
  · obtain ⟨d, c, t, rfl, D0, ht, q⟩ := h
    refine ⟨_, ((pss_one (ps_ret (pe_ix ix_list (pe_lst (pa_cons pe_int (pa_cons pe_int (pa_cons pe_int (pa_cons pe_int (pa_cons pe_int (pa_cons pe_int (pa_cons pe_int (pa_cons pe_int pa_nil))))))))) (pe_callO O__law_draw (hr.mono (by omega)) (by rfl) (pa_cons (pv 0) (pa_cons pe_int pa_nil))) (fun _ _ => rfl))))), ?_⟩
    refine ⟨sz1000 (by decide : (8 : Nat) ≤ 1000), fun L nL => ?_⟩
    generalize h1 : upd H L _ = H1
    obtain ⟨s1, e1⟩ := new_of h1 nL
    refine ⟨.ref d, rfl, d, c, t, 8, rfl, D0.same s1, ht, by decide, by decide, fun H' r k' D' r0 r1 => ?_⟩
    have bL := D0.fresh nL
    have eL' : H' L = some (.lst (PR8.map V.int)) := k' _ _ e1 (fun z => bL (.inl z)) (fun z => bL (.inr z))
    obtain ⟨x, hx, _, hx3⟩ := at_int (xs := PR8) r0 r1
    exact ⟨L, _, r, .int x, rfl, rfl, .inl (.inl eL'), hx3, q H' x (fun b o h n1 n2 => k' b o (s1 b o h) n1 n2) D' hx⟩

def sp_row : Sp := fun vs H Q _ => ∃ (d c : Addr) (t p n : Int), vs = [.ref d, .int p, .int n] ∧ Deck H d c t ∧ t ≤ 990000 ∧ 2 ≤ p ∧ p ≤ 1000 ∧ 0 ≤ n ∧ n ≤ 100 ∧ ∀ H' a r t', Kept d c H H' → Deck H' d c t' → t' ≤ t + 2 * n → H a = none → H' a = some (.tup (r.map V.int)) → (r.length : Int) = n → RowOk p r → Q (.ref a) H'
theorem ok__law_row (T : Top K mg) : Ok P w K mg base 2 "_law_row" ["_law_deck_here", "_law_p", "_law_n"] sp_row := by
  have O__law_draw := ok__law_draw (P := P) (w := w) (base := base) T
  refine T.d__law_row.ok sc__law_row (fun vs H Q E h => ?_) (fun f cdv A outer s H vs Q E hr h => ?_)
  · obtain ⟨d, c, t, p, n, rfl, _⟩ := h
    rfl
  · obtain ⟨d, c, t, p, n, rfl, D0, ht, hp1, hp2, hn1, hn2, q⟩ := h
    refine ⟨_, ((pss_one (ps_ret (pe_callTy call_tuple_of (by rfl) T.b_tuple (by decide +kernel) (pa_cons (pe_lc (own := [("_law_place", 3)]) (g := gName 3) (by rfl) sc__law_row.nd (pi_range1 (by rfl) T.b_range (pa_cons (pv 2) pa_nil)) (blkOk_by (own := [("_law_place", 3)]) (N := N__law_row) (sc := defScope s__law_row) (by decide +kernel)) (fun _ _ _ _ _ => (pg_name (i := 3) sc__law_row.nd rfl (.inl rfl))) (fun _ _ _ _ _ => pts_nil) (fun _ _ _ _ _ => (pe_ix (show IxR _ (rIxL K) from ix_list) (pe_lst (pa_cons pe_int (pa_cons pe_int (pa_cons (pe_op op_sub (pv 1) pe_int) (pa_cons (pe_callO O__law_draw (hr.mono (by omega)) (by rfl) (pa_cons (pv 0) (pa_cons (pv 1) pa_nil))) pa_nil))))) (pe_callO O__law_draw (hr.mono (by omega)) (by rfl) (pa_cons (pv 0) (pa_cons pe_int pa_nil))) (fun _ _ => rfl)))) pa_nil))))), ?_⟩
    refine ⟨.int n, rfl, n, rfl, by omega, by omega, fun B nB => ?_⟩
    have bB := D0.fresh nB
    refine lc_range (lo := 0) (n := n.toNat) (fun i H' => Kept d c H H' ∧ ∃ (t' : Int) (r : List Int), Deck H' d c t' ∧ t' ≤ t + 2 * i ∧ H' B = some (.lst (r.map V.int)) ∧ r.length = i ∧ RowOk p r) ⟨Kept.of (same_upd nB), t, [], D0.same (same_upd nB), by omega, upd_same, rfl, fun x hx => nomatch hx⟩ (fun i H' hi hW => ?_) (fun H' hW => ?_)
    · obtain ⟨k', t', r, D', ht', eB, ln, ro⟩ := hW
      refine ⟨rfl, .int p, rfl, p, 1, rfl, rfl, .ref d, rfl, .int p, rfl, d, c, t', p, rfl, D', by omega, by omega, by omega, fun H1 z1 k1 D1 z10 z11 => ?_⟩
      refine ⟨sz1000 (by decide : (4 : Nat) ≤ 1000), fun L nL => ?_⟩
      generalize h2 : upd H1 L _ = H2
      obtain ⟨s2, e2⟩ := new_of h2 nL
      have D2 := D1.same s2
      have bL := D1.fresh nL
      refine ⟨.ref d, rfl, d, c, t' + 1, 4, rfl, D2, by omega, by decide, by decide, fun H3 z2 k3 D3 z20 z21 => ?_⟩
      have eL : H3 L = some (.lst ([0, 1, p - 1, z1].map V.int)) := k3 _ _ e2 (fun z => bL (.inl z)) (fun z => bL (.inr z))
      obtain ⟨x, hx, _, hx3⟩ := at_int (xs := [0, 1, p - 1, z1]) z20 z21
      have eB3 : H3 B = some (.lst (r.map V.int)) := k3 _ _ (s2 _ _ (k1 _ _ eB (fun z => bB (.inl z)) (fun z => bB (.inr z)))) (fun z => bB (.inl z)) (fun z => bB (.inr z))
      have kk : Kept d c H H3 := fun b o h n1 n2 => k3 b o (s2 b o (k1 b o (k' b o h n1 n2) n1 n2)) n1 n2
      refine ⟨L, _, z2, .int x, rfl, rfl, .inl (.inl eL), hx3, r.map V.int, eB3, by rw [List.length_map]; exact small1000 (by omega), fun b o h n1 n2 => ?_, t' + 1 + 1, r ++ [x], ?_, by omega, ?_, by rw [List.length_append, ln]; rfl, fun y hy => ?_⟩
      · rw [upd_ne (ne_of_none h nB)]
        exact kk b o h n1 n2
      · obtain ⟨hd, ⟨cells, h1, h2⟩, n, t0⟩ := D3
        exact ⟨by rw [upd_ne (fun z => bB (.inl z.symm))]; exact hd, ⟨cells, by rw [upd_ne (fun z => bB (.inr z.symm))]; exact h1, h2⟩, n, t0⟩
      · rw [upd_same, List.map_append]
        rfl
      · rcases List.mem_append.mp hy with h | h
        · exact ro y h
        · have : y = x := by simpa using h
          subst this
          simp only [List.mem_cons, List.not_mem_nil, or_false] at hx
          omega
    · obtain ⟨k', t', r, D', ht', eB, ln, ro⟩ := hW
      refine ⟨B, _, rfl, .inl ⟨.inl (.inl eB), fun l nl => ?_⟩⟩
      generalize h2 : upd H' l _ = H2
      obtain ⟨s2, e2⟩ := new_of h2 nl
      refine q H2 l r t' (fun b o h n1 n2 => s2 b o (k' b o h n1 n2)) (D'.same s2) (by omega) ?_ e2 (by omega) ro
      cases hl : H l with
      | none => rfl
      | some o =>
        have bl := D'.fresh nl
        rw [k' l o hl (fun z => bl (.inl z)) (fun z => bl (.inr z))] at nl
        cases nl

def sp_odd (K : PySem.W.Frag) : Sp := fun vs H Q _ => ∃ (d c : Addr) (t p : Int), vs = [.ref d, .int p] ∧ Deck H d c t ∧ t < 1000000 ∧ ∀ H' v e, Kept d c H H' → Deck H' d c (t + 1) → Rep K H' (fun a => H a ≠ none) v e → e ∈ oddD p → Q v H'
theorem ok__law_odd (T : Top K mg) : Ok P w K mg base 2 "_law_odd" ["_law_deck_here", "_law_p"] (sp_odd K) := by
  have O__law_draw := ok__law_draw (P := P) (w := w) (base := base) T
  refine T.d__law_odd.ok sc__law_odd (fun vs H Q E h => ?_) (fun f cdv A outer s H vs Q E hr h => ?_)
  · obtain ⟨d, c, t, p, rfl, _⟩ := h
    rfl
  · obtain ⟨d, c, t, p, rfl, D0, ht, q⟩ := h
    refine ⟨_, ((pss_cons (ps_set (i := 2) sc__law_odd.nd rfl (.inl rfl) (pe_lst (pa_cons pe_non (pa_cons pe_bl (pa_cons pe_bl (pa_cons (pe_un un_neg pe_int) (pa_cons (pv 1) (pa_cons pe_int (pa_cons pe_int (pa_cons (pe_op op_pow pe_int pe_int) (pa_cons pe_str (pa_cons pe_str (pa_cons (pe_tup pa_nil) (pa_cons (pe_tup (pa_cons pe_int pa_nil)) (pa_cons (pe_lst pa_nil) (pa_cons (pe_lst (pa_cons pe_int pa_nil)) (pa_cons pe_dnewK (pa_cons (pe_disp (pps_cons pe_str pe_int pps_nil) (by rfl) (by rfl) (fun z => by cases z) (by decide)) (pa_cons (pe_op op_sub (pv 1) pe_int) (pa_cons (pe_tup (pa_cons (pe_tup (pa_cons pe_int pa_nil)) pa_nil)) pa_nil))))))))))))))))))))
      (pss_one (ps_ret (pe_ix ix_list (pv 2) (pe_callO O__law_draw (hr.mono (by omega)) (by rfl) (pa_cons (pv 0) (pa_cons pe_int pa_nil))) (fun _ _ => rfl)))))), ?_⟩
    have sz : ∀ n : Nat, n ≤ 18 → n ≤ sizeLine := fun n h => Nat.le_trans h (by decide)
    refine ⟨1, rfl, .int p, rfl, 10, 29, rfl, rfl, ⟨by decide, by decide, by decide⟩, sz 0 (by decide), fun t0 n0 => ?_⟩
    have s0 : Same H (upd H t0 (.tup [])) := same_upd n0
    have e0 : (upd H t0 (.tup [])) t0 = some (.tup []) := upd_same
    generalize upd H t0 (.tup []) = H0 at s0 e0 ⊢
    refine ⟨sz 1 (by decide), fun t1 n1 => ?_⟩
    have s1 : Same H0 (upd H0 t1 (.tup [.int 0])) := same_upd n1
    have e1 : (upd H0 t1 (.tup [.int 0])) t1 = some (.tup [.int 0]) := upd_same
    generalize upd H0 t1 (.tup [.int 0]) = H1 at s1 e1 ⊢
    refine ⟨sz 0 (by decide), fun t2 n2 => ?_⟩
    have s2 : Same H1 (upd H1 t2 (.lst [])) := same_upd n2
    have e2 : (upd H1 t2 (.lst [])) t2 = some (.lst []) := upd_same
    generalize upd H1 t2 (.lst []) = H2 at s2 e2 ⊢
    refine ⟨sz 1 (by decide), fun t3 n3 => ?_⟩
    have s3 : Same H2 (upd H2 t3 (.lst [.int 0])) := same_upd n3
    have e3 : (upd H2 t3 (.lst [.int 0])) t3 = some (.lst [.int 0]) := upd_same
    generalize upd H2 t3 (.lst [.int 0]) = H3 at s3 e3 ⊢
    intro t4 n4
    have s4 : Same H3 (upd H3 t4 (.dK [])) := same_upd n4
    have e4 : (upd H3 t4 (.dK [])) t4 = some (.dK []) := upd_same
    generalize upd H3 t4 (.dK []) = H4 at s4 e4 ⊢
    intro t5 n5
    refine ⟨upd_same, [(Sum.inr "a", .int 1)], rfl, by decide, ?_⟩
    have s5 : Same H4 (upd (upd H4 t5 (.dK [])) t5 (.dK (mergeK [] [(Sum.inr "a", .int 1)]))) := by
      rw [upd_upd]
      exact same_upd n5
    have e5 : (upd (upd H4 t5 (.dK [])) t5 (.dK (mergeK [] [(Sum.inr "a", .int 1)]))) t5 = some (.dK (mergeK [] [(Sum.inr "a", .int 1)])) := upd_same
    generalize upd (upd H4 t5 (.dK [])) t5 (.dK (mergeK [] [(Sum.inr "a", .int 1)])) = H5 at s5 e5 ⊢
    refine ⟨.int p, rfl, p, 1, rfl, rfl, sz 1 (by decide), fun t6 n6 => ?_⟩
    have s6 : Same H5 (upd H5 t6 (.tup [.int 0])) := same_upd n6
    have e6 : (upd H5 t6 (.tup [.int 0])) t6 = some (.tup [.int 0]) := upd_same
    generalize upd H5 t6 (.tup [.int 0]) = H6 at s6 e6 ⊢
    refine ⟨sz 1 (by decide), fun t7 n7 => ?_⟩
    have s7 : Same H6 (upd H6 t7 (.tup [.ref t6])) := same_upd n7
    have e7 : (upd H6 t7 (.tup [.ref t6])) t7 = some (.tup [.ref t6]) := upd_same
    generalize upd H6 t7 (.tup [.ref t6]) = H7 at s7 e7 ⊢
    refine ⟨sz 18 (by decide), fun L nL => ?_⟩
    have sL := same_upd (o := .lst [.non, .bl true, .bl false, .int (-1), .int p, .int 0, .int 1, .int (10 ^ 29), .str "", .str "1", .ref t0, .ref t1, .ref t2, .ref t3, .ref t4, .ref t5, .int (p - 1), .ref t7]) nL
    have eL : (upd H7 L (.lst [.non, .bl true, .bl false, .int (-1), .int p, .int 0, .int 1, .int (10 ^ 29), .str "", .str "1", .ref t0, .ref t1, .ref t2, .ref t3, .ref t4, .ref t5, .int (p - 1), .ref t7])) L = _ := upd_same
    have a7 := sL
    have a6 := s7.trans a7
    have a5 := s6.trans a6
    have a4 := s5.trans a5
    have a3 := s4.trans a4
    have a2 := s3.trans a3
    have a1 := s2.trans a2
    have a0 := s1.trans a1
    have aH := s0.trans a0
    refine ⟨.ref L, rfl, .ref d, rfl, d, c, t, 18, rfl, D0.same aH, ht, by decide, by decide, fun H' r k' D' r0 r1 => ?_⟩
    have bL : ¬ Bad d c L := (D0.same (s0.trans (s1.trans (s2.trans (s3.trans (s4.trans (s5.trans (s6.trans s7)))))))).fresh nL
    have eL' := k' _ _ eL (fun z => bL (.inl z)) (fun z => bL (.inr z))
    have st : Stays (fun a => H a ≠ none) _ H' := Stays.kept2 (D0.same aH) k' (fun z => by rw [D0.hd] at z; cases z) (fun z => by obtain ⟨cells, h1, _⟩ := D0.hc; rw [h1] at z; cases z)
    have all : RepAll K H' (fun a => H a ≠ none) [.non, .bl true, .bl false, .int (-1), .int p, .int 0, .int 1, .int (10 ^ 29), .str "", .str "1", .ref t0, .ref t1, .ref t2, .ref t3, .ref t4, .ref t5, .int (p - 1), .ref t7] (oddD p) := by
      refine repAll_stays st _ _ ?_
      exact .cons .non <| .cons (.bl _) <| .cons (.bl _) <| .cons (.int _) <| .cons (.int _) <| .cons (.int _) <| .cons (.int _) <| .cons (.int _) <| .cons (.str _) <| .cons (.str _) <|
        .cons (.tup (.inl (.inl (a0 _ _ e0))) .nil) <| .cons (.tup (.inl (.inl (a1 _ _ e1))) (.cons (.int 0) .nil)) <| .cons (.lst (a2 _ _ e2) (fun z => z ((s0.trans s1).free n2)) .nil) <| .cons (.lst (a3 _ _ e3) (fun z => z (((s0.trans s1).trans s2).free n3)) (.cons (.int 0) .nil)) <|
        .cons (.dct (a4 _ _ e4) rfl) <| .cons (.dct (a5 _ _ e5) rfl) <| .cons (.int _) <| .cons (.tup (.inl (.inl (a7 _ _ e7))) (.cons (.tup (.inl (.inl (a6 _ _ e6))) (.cons (.int 0) .nil)) .nil)) .nil
    obtain ⟨v, hv⟩ : ∃ v, ([.non, .bl true, .bl false, .int (-1), .int p, .int 0, .int 1, .int (10 ^ 29), .str "", .str "1", .ref t0, .ref t1, .ref t2, .ref t3, .ref t4, .ref t5, .int (p - 1), .ref t7] : List V)[r.toNat]? = some v := by
      refine ⟨_, List.getElem?_eq_getElem ?_⟩
      show r.toNat < 18
      omega
    obtain ⟨e, _, m, rp⟩ := repAll_get all hv
    exact ⟨L, _, r, v, rfl, rfl, .inl (.inl eL'), at_of (j := r.toNat) (by omega) hv, q H' v e (fun b o h n1 n2 => k' b o (aH b o h) n1 n2) D' rp m⟩

abbrev NB : Addr → Prop := fun _ => False
def sp_is_rest (K : PySem.W.Frag) : Sp := fun vs H Q _ => ∃ (p : Int) (v : V) (e : PyData), vs = [.int p, v] ∧ Rep K H NB v e ∧ Q (.bl (restD p e)) H
theorem ok_is_rest (T : Top K mg) : Ok P w K mg base 2 "is_rest" ["p", "thing"] (sp_is_rest K) := by
  have O_is_number := ok_is_number (P := P) (w := w) (base := base) T
  refine T.d_is_rest.ok sc_is_rest (fun vs H Q E h => ?_) (fun f cdv A outer s H vs Q E hr h => ?_)
  · obtain ⟨p, v, e, rfl, _⟩ := h
    rfl
  · obtain ⟨p, v, e, rfl, hv, q⟩ := h
    refine ⟨_, ((pss_one (ps_ret (pe_and (pe_callO O_is_number (hr.mono (by omega)) (by rfl) (pa_cons (pv 1) pa_nil)) (pe_one (pe_chain op_le op_lt pe_int (pv 1) (pv 0))))))), ?_⟩
    refine ⟨v, rfl, v, kdOf e, rfl, hv.kd, _, rfl, ?_⟩
    cases hv with
    | int i =>
      refine iteT ⟨.int i, rfl, 0, i, rfl, rfl, _, rfl, ?_⟩
      by_cases h0 : 0 ≤ i
      · rw [decide_eq_true h0]
        refine iteT ⟨.int p, rfl, i, p, rfl, rfl, ?_⟩
        have e : restD p (.int i) = decide (i < p) := by
          show (decide (0 ≤ i) && decide (i < p)) = decide (i < p)
          rw [decide_eq_true h0, Bool.true_and]
        rw [e] at q
        exact q
      · rw [decide_eq_false h0]
        refine iteF ?_
        have e : restD p (.int i) = false := by
          show (decide (0 ≤ i) && decide (i < p)) = false
          rw [decide_eq_false h0, Bool.false_and]
        rw [e] at q
        exact q
    | _ => exact iteF q

def sp_is_row (K : PySem.W.Frag) : Sp := fun vs H Q _ => ∃ (p n : Int) (v : V) (e : PyData), vs = [.int p, .int n, v] ∧ Rep K H NB v e ∧ lenOk e ∧ ∀ H', Same H H' → Q (.bl (isRowD p n e)) H'
theorem ok_is_row (T : Top K mg) : Ok P w K mg base 3 "is_row" ["p", "n", "thing"] (sp_is_row K) := by
  have O_is_rest := ok_is_rest (P := P) (w := w) (base := base) T
  refine T.d_is_row.ok sc_is_row (fun vs H Q E h => ?_) (fun f cdv A outer s H vs Q E hr h => ?_)
  · obtain ⟨p, n, v, e, rfl, _⟩ := h
    rfl
  · obtain ⟨p, n, v, e, rfl, hv, hl, q⟩ := h
    refine ⟨_, ((pss_one (ps_ret (pe_and (pe_callB call_isi (by rfl) T.b_isinstance (by decide +kernel) (pa_cons (pv 2) (pa_cons (pe_bltn (v := .ty "tuple") (u := .type "tuple") (by rfl) T.b_tuple (by decide +kernel) rfl) pa_nil))) (pe_and (pe_cmpR op_eq (pe_callB call_len_seq (by rfl) T.b_len (by decide +kernel) (pa_cons (pv 2) pa_nil)) (pv 1) (nomark _)) (pe_one (pe_callB (cr_all (by rfl)) (by rfl) T.b_all (by decide +kernel) (pa_cons (pe_lc (own := [("part", 3)]) (g := gName 3) (by rfl) sc_is_row.nd (pi_tup (pv 2)) (blkOk_by (own := [("part", 3)]) (N := N_is_row) (sc := defScope s_is_row) (by decide +kernel)) (fun _ _ _ _ _ => (pg_name (i := 3) sc_is_row.nd rfl (.inl rfl))) (fun _ _ _ _ _ => pts_nil) (fun _ _ _ _ _ => (pe_callO O_is_rest (hr.mono (by omega)) (by rfl) (pa_cons (pv 0) (pa_cons (pv 3) pa_nil))))) pa_nil)))))))), ?_⟩
    refine ⟨v, rfl, v, .ty "tuple", _, _, _, rfl, .ty "tuple", hv.kd, kit_tuple _, _, rfl, ?_⟩
    cases hv with
    | @tup a xs ds hA hx =>
      have lx := repAll_len hx
      have hl : ds.length ≤ 1000 := hl
      refine iteT ⟨.ref a, rfl, a, xs, rfl, .inr hA, .int n, rfl, rfl, _, rfl, ?_⟩
      by_cases hn : (ds.length : Int) = n
      · rw [decide_eq_true (show V.int ((xs.length : Nat) : Int) = V.int n by rw [lx, hn])]
        refine iteT ⟨.ref a, rfl, a, rfl, ⟨_, hA⟩, fun D nD => ?_⟩
        refine lc_it (walk_tup (K := K) (a := a) (xs := xs)) (fun k H' => Same H H' ∧ H' D = some (.lst (((ds.map (restD p)).take k).map V.bl))) ⟨same_mut (Same.refl H) nD, upd_same⟩ (fun k H' _ hP => Same.tup hP.1 hA) (fun k x H1 H2 hk hP hY => ?_) (fun H' hP => ?_)
        · obtain ⟨rfl, e1⟩ := hY
          obtain ⟨sm, eD⟩ := hP
          obtain ⟨e, g, _, rx⟩ := repAll_get hx e1
          refine ⟨rfl, .int p, rfl, x, rfl, p, x, e, rfl, rep_stays (Stays.of sm) _ _ rx, _, eD, ?_, same_mut sm nD, ?_⟩
          · rw [List.length_map, List.length_take, List.length_map]
            exact small1000 (by omega)
          · rw [upd_same, List.take_add_one, List.getElem?_map, g, List.map_append]
            rfl
        · obtain ⟨sm, eD⟩ := hP
          rw [List.take_of_length_le (by rw [List.length_map]; omega)] at eD
          refine ⟨D, ds.map (restD p), rfl, .inl (.inl eD), ?_⟩
          have e : isRowD p n (.tuple ds) = (ds.map (restD p)).all id := by
            show (decide ((ds.length : Int) = n) && ds.all (restD p)) = _
            rw [decide_eq_true hn, Bool.true_and, List.all_map]
            rfl
          have := q H' sm
          rw [e] at this
          exact this
      · rw [decide_eq_false (show ¬ V.int ((xs.length : Nat) : Int) = V.int n from fun z => hn (by rw [← lx]; exact V.int.inj z))]
        refine iteF ?_
        have e : isRowD p n (.tuple ds) = false := by
          show (decide ((ds.length : Int) = n) && ds.all (restD p)) = false
          rw [decide_eq_false hn, Bool.false_and]
        have := q H (Same.refl H)
        rw [e] at this
        exact this
    | _ => exact iteF (q H (Same.refl H))

theorem ok__law_due (T : Top K mg) : Ok P w K mg base 2 "_law_due" ["_law_p", "_law_n", "_law_thing"] (sp_is_row K) := by
  have O__law_whole := ok__law_whole (P := P) (w := w) (base := base) T
  refine T.d__law_due.ok sc__law_due (fun vs H Q E h => ?_) (fun f cdv A outer s H vs Q E hr h => ?_)
  · obtain ⟨p, n, v, e, rfl, _⟩ := h
    rfl
  · obtain ⟨p, n, v, e, rfl, hv, hl, q⟩ := h
    refine ⟨_, ((pss_cons (ps_if (PW.pt (pw_or (pt_not (pt_val (pe_callB call_isi (by rfl) T.b_isinstance (by decide +kernel) (pa_cons (pv 2) (pa_cons (pe_bltn (v := .ty "tuple") (u := .type "tuple") (by rfl) T.b_tuple (by decide +kernel) rfl) pa_nil))))) (pw_or1 (pt_cmpR op_ne (pe_callB call_len_seq (by rfl) T.b_len (by decide +kernel) (pa_cons (pv 2) pa_nil)) (pv 1) (nomark _)))))
        (pss_one (ps_ret pe_bl))
        pss_nil)
      (pss_one (ps_ret (pe_cmpR (op_eqNil hr.units) (pe_lc (own := [("_law_one", 3)]) (g := gName 3) (by rfl) sc__law_due.nd (pi_tup (pv 2)) (blkOk_by (own := [("_law_one", 3)]) (N := N__law_due) (sc := defScope s__law_due) (by decide +kernel)) (fun _ _ _ _ _ => (pg_name (i := 3) sc__law_due.nd rfl (.inl rfl))) (fun _ _ _ _ _ => (pts_one (PW.pt (pw_or (pt_not (pt_val (pe_callO O__law_whole (hr.mono (by omega)) (by rfl) (pa_cons (pv 3) pa_nil)))) (pw_or (pt_cmpR op_lt (pv 3) pe_int (nomark _)) (pw_or1 (pt_cmpR op_gt (pv 3) (pe_op op_sub (pv 0) pe_int) (nomark _)))))))) (fun _ _ _ _ _ => (pv 3))) (pe_lst pa_nil) (nomark _)))))), ?_⟩
    refine ⟨v, rfl, v, .ty "tuple", _, _, _, rfl, .ty "tuple", hv.kd, kit_tuple _, _, rfl, ?_⟩
    cases hv with
    | @tup a xs ds hA hx =>
      have lx := repAll_len hx
      have hl : ds.length ≤ 1000 := hl
      refine iteF ⟨.ref a, rfl, a, xs, rfl, .inr hA, .int n, rfl, rfl, _, rfl, ?_⟩
      by_cases hn : (ds.length : Int) = n
      · rw [decide_eq_true (show V.int ((xs.length : Nat) : Int) = V.int n by rw [lx, hn])]
        refine iteF ⟨.ref a, rfl, a, rfl, ⟨_, hA⟩, fun D nD => ?_⟩
        refine lc_it (walk_tup (K := K) (a := a) (xs := xs)) (fun k H' => Same H H' ∧ ∃ bs : List V, H' D = some (.lst bs) ∧ bs.length ≤ k ∧ bs.isEmpty = (ds.take k).all (restD p)) ⟨same_mut (Same.refl H) nD, [], upd_same, Nat.le_refl _, rfl⟩ (fun k H' _ hP => Same.tup hP.1 hA) (fun k x H1 H2 hk hP hY => ?_) (fun H' hP => ?_)
        · obtain ⟨rfl, e1⟩ := hY
          obtain ⟨sm, bs, eD, lb, eb⟩ := hP
          obtain ⟨e, g, _, rx⟩ := repAll_get hx e1
          have rx' := rep_stays (Stays.of sm) _ _ rx
          have tk : (ds.take (k + 1)).all (restD p) = ((ds.take k).all (restD p) && restD p e) := by
            rw [List.take_add_one, g, List.all_append]
            simp
          have keep : ∀ b : Bool, b = (!restD p e) → (if b = true then (tVar 3 : TE) ((List.set (wipe (L2.start N__law_due [V.int p, V.int n, V.ref a]) [3]) 3 (some x))) H2 (fun y H4 => ∃ acc, H4 D = some (.lst acc) ∧ acc.length < sizeLine ∧ Same H (upd H4 D (.lst (acc ++ [y]))) ∧ ∃ bs : List V, (upd H4 D (.lst (acc ++ [y]))) D = some (.lst bs) ∧ bs.length ≤ k + 1 ∧ bs.isEmpty = (ds.take (k + 1)).all (restD p)) else Same H H2 ∧ ∃ bs : List V, H2 D = some (.lst bs) ∧ bs.length ≤ k + 1 ∧ bs.isEmpty = (ds.take (k + 1)).all (restD p)) := by
            intro b hb
            cases hr' : restD p e with
            | true =>
              rw [hr'] at hb
              subst hb
              refine iteF ⟨sm, bs, eD, by omega, ?_⟩
              rw [tk, hr', Bool.and_true]
              exact eb
            | false =>
              rw [hr'] at hb
              subst hb
              refine iteT ⟨x, rfl, bs, eD, small1000 (by omega), same_mut sm nD, bs ++ [x], upd_same, by rw [List.length_append]; simp; omega, ?_⟩
              rw [tk, hr', Bool.and_false]
              cases bs <;> rfl
          refine ⟨rfl, x, rfl, x, kdOf e, rfl, rx'.kd, _, rfl, ?_⟩
          cases rx' with
          | int i =>
            refine iteF ⟨.int i, rfl, i, 0, rfl, rfl, _, rfl, ?_⟩
            by_cases h0 : i < 0
            · rw [decide_eq_true h0]
              refine iteT (keep true ?_)
              show true = !(decide (0 ≤ i) && decide (i < p))
              rw [decide_eq_false (by omega)]
              rfl
            · rw [decide_eq_false h0]
              refine iteF ⟨.int i, rfl, .int p, rfl, p, 1, rfl, rfl, i, p - 1, rfl, rfl, _, rfl, keep _ ?_⟩
              show decide (p - 1 < i) = !(decide (0 ≤ i) && decide (i < p))
              rw [decide_eq_true (show (0 : Int) ≤ i by omega), Bool.true_and]
              by_cases h1 : i < p
              · rw [decide_eq_true h1, decide_eq_false (by omega)]
                rfl
              · rw [decide_eq_false h1, decide_eq_true (by omega)]
                rfl
          | _ => exact iteT (keep true rfl)
        · obtain ⟨sm, bs, eD, lb, eb⟩ := hP
          refine ⟨Nat.zero_le _, fun z nz => ?_⟩
          generalize h3 : upd H' z _ = H3
          obtain ⟨s3, e3⟩ := new_of h3 nz
          refine ⟨D, z, bs, rfl, rfl, s3 _ _ eD, e3, ?_⟩
          rw [List.take_of_length_le (by omega)] at eb
          have e : isRowD p n (.tuple ds) = bs.isEmpty := by
            show (decide ((ds.length : Int) = n) && ds.all (restD p)) = _
            rw [decide_eq_true hn, Bool.true_and, eb]
          have := q H3 (sm.trans s3)
          rw [e] at this
          exact this
      · rw [decide_eq_false (show ¬ V.int ((xs.length : Nat) : Int) = V.int n from fun z => hn (by rw [← lx]; exact V.int.inj z))]
        refine iteT ?_
        have e : isRowD p n (.tuple ds) = false := by
          show (decide ((ds.length : Int) = n) && ds.all (restD p)) = false
          rw [decide_eq_false hn, Bool.false_and]
        have := q H (Same.refl H)
        rw [e] at this
        exact this
    | _ => exact iteT (q H (Same.refl H))

def sp_right (K : PySem.W.Frag) : Sp := fun vs H Q _ => ∃ (p n : Int) (v : V) (e : PyData), vs = [.int p, .int n, v] ∧ Rep K H NB v e ∧ lenOk e ∧ Fit e ∧ ∀ H', Same H H' → Q (.bl true) H'
theorem ok__law_right (T : Top K mg) : OkG P w K mg base 4 "_law_right" ["_law_p", "_law_n", "_law_thing"] (sp_right K) := by
  have O_is_row := ok_is_row (P := P) (w := w) (base := base) T
  have O__law_due := ok__law_due (P := P) (w := w) (base := base) T
  have O__law_same := ok_same2 (P := P) (w := w) (base := base) T
  refine T.d__law_right.okG sc__law_right (fun vs H Q E h => ?_) (fun f cdv A outer s H vs Q E hr hgd h => ?_)
  · obtain ⟨p, n, v, e, rfl, _⟩ := h
    rfl
  · obtain ⟨p, n, v, e, rfl, hv, hl, hf, q⟩ := h
    refine ⟨_, ((pss_cons (ps_set (i := 3) sc__law_right.nd rfl (.inl rfl) (pe_callB (call_reprQ NB hr hgd) (by rfl) T.b_repr (by decide +kernel) (pa_cons (pv 2) pa_nil)))
      (pss_cons (ps_for PassesOwn.never (by rfl) (pi_list (pe_lst (pa_cons (pv 1) (pa_cons (pe_op op_add (pe_op op_mod (pv 1) pe_int) pe_int) (pa_cons (pe_callB (call_max2 (by rfl)) (by rfl) T.b_max (by decide +kernel) (pa_cons pe_int (pa_cons (pe_op op_sub (pv 1) pe_int) pa_nil))) pa_nil))))) (pg_name (i := 4) sc__law_right.nd rfl (.inl rfl))
        (pss_one (ps_if (pt_not (pt_val (pe_callO O__law_same (hr.mono (by omega)) (by rfl) (pa_cons (pe_callO O_is_row (hr.mono (by omega)) (by rfl) (pa_cons (pv 0) (pa_cons (pv 4) (pa_cons (pv 2) pa_nil)))) (pa_cons (pe_callO O__law_due (hr.mono (by omega)) (by rfl) (pa_cons (pv 0) (pa_cons (pv 4) (pa_cons (pv 2) pa_nil)))) pa_nil)))))
          (pss_one (ps_ret pe_bl))
          pss_nil)))
      (pss_one (ps_ret (pe_cmpR op_eq (pe_callB (call_reprQ NB hr hgd) (by rfl) T.b_repr (by decide +kernel) (pa_cons (pv 2) pa_nil)) (pv 3) (nomark _))))))), ?_⟩
    refine ⟨v, rfl, v, e, rfl, hv, hf, ?_⟩
    refine ⟨.int n, rfl, .int n, rfl, n, 8, rfl, rfl, (show (0 : Int) < 8 by decide), _, 1, rfl, rfl, .int n, rfl, n, 1, rfl, rfl, 1, n - 1, rfl, sz1000 (by decide : (3 : Nat) ≤ 1000), fun L nL => ?_⟩
    generalize h1 : upd H L _ = H1
    obtain ⟨s1, e1⟩ := new_of h1 nL
    have e1 : H1 L = some (.lst ([n, n % 8 + 1, if n - 1 > 1 then n - 1 else 1].map V.int)) := e1
    refine ⟨L, rfl, ⟨_, .inl (.inl e1)⟩, for_list (xs := [n, n % 8 + 1, if n - 1 > 1 then n - 1 else 1].map V.int) (fun j σ H' => Same H1 H' ∧ ∃ y4 : Option V, σ = [some (.int p), some (.int n), some v, some (.str e.shown), y4]) ⟨Same.refl H1, none, rfl⟩ (fun j σ H' _ hW => .inl (.inl (hW.1 _ _ e1))) (fun j x σ H' hx hW => ?_) (fun σ H' hW => ?_)⟩
    · obtain ⟨sm, y4, rfl⟩ := hW
      rw [List.getElem?_map] at hx
      cases hg : ([n, n % 8 + 1, if n - 1 > 1 then n - 1 else 1] : List Int)[j]? with
      | none => rw [hg] at hx; cases hx
      | some m =>
        rw [hg] at hx
        have ex : x = V.int m := (Option.some.inj hx).symm
        subst ex
        have v1 := rep_stays (Stays.of (s1.trans sm)) _ _ hv
        refine ⟨.int p, rfl, .int m, rfl, v, rfl, p, m, v, e, rfl, v1, hl, fun H2 s2 => ?_⟩
        refine ⟨.int p, rfl, .int m, rfl, v, rfl, p, m, v, e, rfl, rep_stays (Stays.of s2) _ _ v1, hl, fun H3 s3 => ?_⟩
        exact ⟨.bl _, .bl _, .bool (isRowD p m e), rfl, .bl _, .bl _, .inl True.intro, fun H4 s4 => ⟨true, rfl, iteF ⟨((sm.trans s2).trans s3).trans s4, _, rfl⟩⟩⟩
    · obtain ⟨sm, y4, rfl⟩ := hW
      refine ⟨v, rfl, v, e, rfl, rep_stays (Stays.of (s1.trans sm)) _ _ hv, hf, .str e.shown, rfl, rfl, ?_⟩
      rw [decide_eq_true rfl]
      exact q H' (s1.trans sm)

end
end OC

set_option Elab.async false
set_option linter.all false
set_option maxRecDepth 100000
namespace OC
open PySem PySem.Spec PyProof.Rows L2
section
variable {P : Program} {w : World} {K : PySem.W.Frag} {mg : Str → Option Value} {base : Heap}
def spB (K : PySem.W.Frag) : Nat → Sp
  | 0 => fun _ _ _ _ => False
  | m + 1 => fun vs H Q _ => ∃ (d c : Addr) (t p dp : Int) (v : V) (e : PyData), vs = [.ref d, .int p, v, .int dp] ∧ Deck H d c t ∧ t + 10 * ((m : Int) + 1) ≤ 990000 ∧ 2 ≤ p ∧ p ≤ 1000 ∧ Rep K H NB v e ∧ Pu m e ∧
      ∀ (H' : Hp) (v' : V) (e' : PyData) (t' : Int), Kept d c H H' → Deck H' d c t' → t' ≤ t + 4 * (m + 1) → Rep K H' (fun a => H a ≠ none) v' e' → Bt p m e' → Q v' H'
theorem bt_odd {p : Int} {e : PyData} (h : e ∈ oddD p) : ∀ m : Nat, Bt p m e
  | 0 => .inl h
  | _ + 1 => .inl h
theorem take_pu {n : Nat} {ds : List PyData} (h : ∀ x ∈ ds, Pu n x) (k : Nat) : ∀ x ∈ ds.take k, Pu n x := fun x m => h x (List.mem_of_mem_take m)
theorem drop_pu {n : Nat} {ds : List PyData} (h : ∀ x ∈ ds, Pu n x) (k : Nat) : ∀ x ∈ ds.drop k, Pu n x := fun x m => h x (List.mem_of_mem_drop m)
theorem bent_step (T : Top K mg) (m k : Nat) (O__law_bent : Ok P w K mg base (k + 2) "_law_bent" ["_law_deck_here", "_law_p", "_law_thing", "_law_deep"] (spB K m)) : Ok P w K mg base (k + 3) "_law_bent" ["_law_deck_here", "_law_p", "_law_thing", "_law_deep"] (spB K (m + 1)) := by
  have O__law_draw := ok__law_draw (P := P) (w := w) (base := base) T
  have O__law_odd := ok__law_odd (P := P) (w := w) (base := base) T
  have O__law_whole := ok__law_whole (P := P) (w := w) (base := base) T
  refine T.d__law_bent.ok sc__law_bent (fun vs H Q E h => ?_) (fun f cdv A outer s H vs Q E hr h => ?_)
  · obtain ⟨d, c, t, p, dp, v, e, rfl, _⟩ := h
    rfl
  · obtain ⟨d, c, t, p, dp, v, e, rfl, D0, ht, hp1, hp2, hv, hpu, q⟩ := h
    refine ⟨_, ((C8.pss_cut (ps_if (PW.pt (pw_and (pt_val (pe_callB call_isi (by rfl) T.b_isinstance (by decide +kernel) (pa_cons (pv 2) (pa_cons (pe_bltn (v := .ty "tuple") (u := .type "tuple") (by rfl) T.b_tuple (by decide +kernel) rfl) pa_nil)))) (pw_and (pt_cmpR op_gt (pe_callB call_len_seq (by rfl) T.b_len (by decide +kernel) (pa_cons (pv 2) pa_nil)) pe_int (nomark _)) (pw_and (pt_cmpR op_gt (pv 3) pe_int (nomark _)) (pw_and1 (pt_cmpR op_gt (pe_callO O__law_draw (hr.mono (by omega)) (by rfl) (pa_cons (pv 0) (pa_cons pe_int pa_nil))) pe_int (nomark _)))))))
        (pss_cons (ps_set (i := 4) sc__law_bent.nd rfl (.inl rfl) (pe_callO O__law_draw (hr.mono (by omega)) (by rfl) (pa_cons (pv 0) (pa_cons (pe_callB call_len_seq (by rfl) T.b_len (by decide +kernel) (pa_cons (pv 2) pa_nil)) pa_nil))))
        (pss_one (ps_ret (pe_op op_catB (pe_op op_catB (pe_slice sl_tupB (pv 2) po_none (po_some (pv 4))) (pe_tup (pa_cons (pe_callO O__law_bent (hr.mono (by omega)) (by rfl) (pa_cons (pv 0) (pa_cons (pv 1) (pa_cons (pe_ix ix_tup (pv 2) (pv 4) (fun _ _ => rfl)) (pa_cons (pe_op op_sub (pv 3) pe_int) pa_nil))))) pa_nil))) (pe_slice sl_tupB (pv 2) (po_some (pe_op op_add (pv 4) pe_int)) po_none)))))
        pss_nil)
      (pss_cons (ps_set (i := 5) sc__law_bent.nd rfl (.inl rfl) (pe_callO O__law_draw (hr.mono (by omega)) (by rfl) (pa_cons (pv 0) (pa_cons pe_int pa_nil))))
      (pss_cons (ps_if (PW.pt (pw_and (pt_val (pe_callB call_isi (by rfl) T.b_isinstance (by decide +kernel) (pa_cons (pv 2) (pa_cons (pe_bltn (v := .ty "tuple") (u := .type "tuple") (by rfl) T.b_tuple (by decide +kernel) rfl) pa_nil)))) (pw_and1 (pt_cmpR op_gt (pv 5) pe_int (nomark _)))))
        (pss_cons (ps_set (i := 6) sc__law_bent.nd rfl (.inl rfl) (pe_op op_catB (pv 2) (pe_tup (pa_cons (pe_callO O__law_odd (hr.mono (by omega)) (by rfl) (pa_cons (pv 0) (pa_cons (pv 1) pa_nil))) pa_nil))))
        (pss_cons (ps_set (i := 7) sc__law_bent.nd rfl (.inl rfl) (pe_lst (pa_cons (pe_callTy call_list_of (by rfl) T.b_list (by decide +kernel) (pa_cons (pv 2) pa_nil)) (pa_cons (pv 6) (pa_cons (pe_slice sl_tupB (pv 2) po_none (po_some (pe_un un_neg pe_int))) (pa_cons (pe_revT (pv 2)) (pa_cons (pe_op op_catB (pv 2) (pe_slice sl_tupB (pv 2) (po_some (pe_un un_neg pe_int)) po_none)) (pa_cons (pe_slice sl_tupB (pv 2) (po_some pe_int) po_none) pa_nil))))))))
        (pss_one (ps_ret (pe_ix ix_list (pv 7) (pe_callO O__law_draw (hr.mono (by omega)) (by rfl) (pa_cons (pv 0) (pa_cons pe_int pa_nil))) (fun _ _ => rfl))))))
        pss_nil)
      (pss_cons (ps_if (PW.pt (pw_and (pt_val (pe_callO O__law_whole (hr.mono (by omega)) (by rfl) (pa_cons (pv 2) pa_nil))) (pw_and1 (pt_cmpR op_gt (pv 5) pe_int (nomark _)))))
        (pss_one (ps_ret (pe_ix ix_list (pe_lst (pa_cons (pe_op op_add (pv 2) pe_int) (pa_cons (pe_op op_sub (pv 2) pe_int) (pa_cons (pe_op op_add (pv 2) (pv 1)) (pa_cons (pe_op op_sub pe_int (pv 2)) (pa_cons (pe_op op_mod (pe_op op_add (pv 2) pe_int) (pv 1)) pa_nil)))))) (pe_callO O__law_draw (hr.mono (by omega)) (by rfl) (pa_cons (pv 0) (pa_cons pe_int pa_nil))) (fun _ _ => rfl))))
        pss_nil)
      (pss_one (ps_ret (pe_callO O__law_odd (hr.mono (by omega)) (by rfl) (pa_cons (pv 0) (pa_cons (pv 1) pa_nil)))))))))), ?_⟩
    have hdn : H d ≠ none := fun z => by rw [D0.hd] at z; cases z
    have hcn : H c ≠ none := fun z => by obtain ⟨cells, h1, _⟩ := D0.hc; rw [h1] at z; cases z
    refine ⟨fun σ' H' => ∃ t1 : Int, Kept d c H H' ∧ Deck H' d c t1 ∧ t1 ≤ t + 1 ∧ σ' = [some (.ref d), some (.int p), some v, some (.int dp), none, none, none, none], ?_, ?_⟩
    · -- within a tuple
      refine ⟨v, rfl, v, .ty "tuple", _, _, _, rfl, .ty "tuple", hv.kd, kit_tuple _, _, rfl, ?_⟩
      cases m with
      | zero =>
        obtain ⟨i, rfl, hi1, hi2⟩ := hpu
        exact iteF (iteF ⟨t, Kept.refl _ _ _, D0, by omega, rfl⟩)
      | succ j =>
        obtain ⟨ds, rfl, hl, hds⟩ := hpu
        obtain ⟨a, xs, rfl, hA, hx⟩ := rep_tup hv
        have lx := repAll_len hx
        refine iteT ⟨.ref a, rfl, a, xs, rfl, .inr hA, _, 0, rfl, rfl, _, rfl, ite2 (fun e1 => ?_) (fun _ => iteF ⟨t, Kept.refl _ _ _, D0, by omega, rfl⟩)⟩
        have len0 : (0 : Int) < (xs.length : Int) := of_decide_eq_true e1
        refine ⟨.int dp, rfl, dp, 0, rfl, rfl, _, rfl, ite2 (fun e2 => ?_) (fun _ => iteF ⟨t, Kept.refl _ _ _, D0, by omega, rfl⟩)⟩
        refine ⟨.ref d, rfl, d, c, t, 5, rfl, D0, by omega, by decide, by decide, fun H1 r k1 D1 r0 r1 => ?_⟩
        refine ⟨r, 0, rfl, rfl, _, rfl, ite2 (fun e3 => ?_) (fun _ => ⟨t + 1, k1, D1, by omega, rfl⟩)⟩
        have hA1 := Kept.tup D0 k1 hA
        refine ⟨.ref d, rfl, .ref a, rfl, a, xs, rfl, .inr hA1, d, c, t + 1, _, rfl, D1, by omega, len0, by omega, fun H2 i k2 D2 i0 i1 => ?_⟩
        have hA2 := Kept.tup D1 k2 hA1
        have k02 := k1.trans k2
        -- thing[:at]
        refine ⟨.ref a, rfl, .int i, rfl, i, rfl, a, xs, rfl, hA2, fun b1 H3 s3 hb1 => ?_⟩
        rw [cut_to i0 (by omega)] at hb1
        have D3 := D2.same s3
        have k03 : Kept d c H H3 := k02.trans (Kept.of s3)
        have hA3 := Same.tup s3 hA2
        have hi : i.toNat < xs.length := by omega
        have gx : xs[i.toNat]? = some xs[i.toNat] := List.getElem?_eq_getElem hi
        obtain ⟨ex, gd, md, rx⟩ := repAll_get hx gx
        have pex := hds ex md
        have rx3 : Rep K H3 NB xs[i.toNat] ex := rep_pure (Tk.kept D0 k03) j ex _ pex rx
        refine ⟨.ref d, rfl, .int p, rfl, .ref a, rfl, .int i, rfl, a, xs, i, xs[i.toNat], rfl, rfl, hA3, at_of (j := i.toNat) (by omega) gx, .int dp, rfl, dp, 1, rfl, rfl, ?_⟩
        refine ⟨d, c, t + 1 + 1, p, dp - 1, xs[i.toNat], ex, rfl, D3, by omega, hp1, hp2, rx3, pex, fun H4 v' e' t4 k4 D4 ht4 rv bt => ?_⟩
        refine ⟨sz1000 (by decide : (1 : Nat) ≤ 1000), fun u nu => ?_⟩
        generalize h5 : upd H4 u _ = H5
        obtain ⟨s5, e5⟩ := new_of h5 nu
        have t45 : Tk H3 H5 := (Tk.kept D3 k4).trans (Tk.of s5)
        refine ⟨b1, u, _, _, rfl, rfl, t45 _ _ _ hb1, .inl (.inl e5), ?_, fun b2 H6 s6 hb2 => ?_⟩
        · rw [List.length_take]
          exact sz1000 (by simp; omega)
        have t36 : Tk H3 H6 := t45.trans (Tk.of s6)
        refine ⟨.ref a, rfl, .int i, rfl, i, 1, rfl, rfl, i + 1, rfl, a, xs, rfl, t36 _ _ _ hA3, fun b3 H7 s7 hb3 => ?_⟩
        rw [cut_from (by omega) (by omega)] at hb3
        refine ⟨b2, b3, _, _, rfl, rfl, Same.tup s7 hb2, hb3, ?_, fun b4 H8 s8 hb4 => ?_⟩
        · rw [List.length_append, List.length_take, List.length_drop]
          exact sz1000 (by simp; omega)
        have k48 : Kept d c H4 H8 := Kept.of (((s5.trans s6).trans s7).trans s8)
        have k08 : Kept d c H H8 := (k03.trans k4).trans k48
        have st48 : Stays (fun a => H a ≠ none) H4 H8 := Stays.of (((s5.trans s6).trans s7).trans s8)
        have rv8 : Rep K H8 (fun a => H a ≠ none) v' e' := rep_stays st48 _ _ (rep_weak (fun b hb z => by
          rcases hq : H b with _ | o
          · exact hb hq
          · by_cases z1 : b = d
            · subst z1; rw [D3.hd] at z; cases z
            · by_cases z2 : b = c
              · obtain ⟨cells, h1, _⟩ := D3.hc
                subst z2; rw [h1] at z; cases z
              · rw [k03 b o hq z1 z2] at z; cases z) _ _ rv)
        have pu : ∀ (ys : List V) (es : List PyData), (∀ x ∈ es, Pu j x) → RepAll K H NB ys es → RepAll K H8 (fun a => H a ≠ none) ys es := fun ys es h1 h2 => repAll_pure (Tk.kept D0 k08) j es ys h1 h2
        refine q H8 (.ref b4) (.tuple ((ds.take i.toNat ++ [e']) ++ ds.drop (i + 1).toNat)) t4 k08 (D4.same (((s5.trans s6).trans s7).trans s8)) (by omega) (.tup hb4 ?_) ?_
        · exact repAll_append (repAll_append (pu _ _ (take_pu hds _) (repAll_take _ hx)) (.cons rv8 .nil)) (pu _ _ (drop_pu hds _) (repAll_drop _ hx))
        · refine .inr (.inl ⟨ds.take i.toNat, e', ds.drop (i + 1).toNat, by rw [List.append_assoc]; rfl, ?_, ?_, take_pu hds _, drop_pu hds _, bt⟩)
          · rw [List.length_take]; omega
          · rw [List.length_drop]; omega
    · -- as a whole
      rintro σ' H1 ⟨t1, k1, D1, ht1, rfl⟩
      refine ⟨.ref d, rfl, d, c, t1, 4, rfl, D1, by omega, by decide, by decide, fun H2 way k2 D2 w0 w1 => ?_⟩
      have k02 := k1.trans k2
      have tk2 : Tk H H2 := Tk.kept D0 k02
      have v2 : Rep K H2 NB v e := rep_pure tk2 m e v hpu hv
      refine ⟨v, rfl, v, .ty "tuple", _, _, _, rfl, .ty "tuple", v2.kd, kit_tuple _, _, rfl, ?_⟩
      -- an odd thing in its place
      have odd : ∀ (H3 : Hp) (t3 : Int) (v' : V) (e' : PyData), Kept d c H2 H3 → Deck H3 d c t3 → t3 ≤ t1 + 2 → Rep K H3 (fun a => H2 a ≠ none) v' e' → e' ∈ oddD p → Q v' H3 := fun H3 t3 v' e' k3 D3 ht3 rv me =>
        q H3 v' e' t3 (k02.trans k3) D3 (by omega) (rep_weak (fun b hb z => by
          rcases hq : H b with _ | o
          · exact hb hq
          · by_cases z1 : b = d
            · subst z1; rw [D2.hd] at z; cases z
            · by_cases z2 : b = c
              · obtain ⟨cells, h1, _⟩ := D2.hc
                subst z2; rw [h1] at z; cases z
              · rw [k02 b o hq z1 z2] at z; cases z) _ _ rv) (bt_odd me m)
      cases m with
      | zero =>
        obtain ⟨i, rfl, hi1, hi2⟩ := hpu
        cases hv
        refine iteF (iteF ⟨.int i, rfl, .int i, .int, rfl, kd_int i, _, rfl, iteT ⟨.int way, rfl, way, 0, rfl, rfl, _, rfl, ite2 (fun e1 => ?_) (fun _ => ?_)⟩⟩)
        · refine ⟨.int i, rfl, i, 1, rfl, rfl, .int i, rfl, i, 1, rfl, rfl, .int i, rfl, .int p, rfl, i, p, rfl, rfl, .int i, rfl, 0, i, rfl, rfl, .int i, rfl, i, 1, rfl, rfl, .int p, rfl, _, p, rfl, rfl, by omega, sz1000 (by decide : (5 : Nat) ≤ 1000), fun L nL => ?_⟩
          generalize h3 : upd H2 L _ = H3
          obtain ⟨s3, e3⟩ := new_of h3 nL
          have bL := D2.fresh nL
          refine ⟨.ref d, rfl, d, c, t1 + 1, 5, rfl, D2.same s3, by omega, by decide, by decide, fun H4 z k4 D4 z0 z1 => ?_⟩
          have e4 : H4 L = some (.lst ([i + 1, i - 1, i + p, 0 - i, (i + 1) % p].map V.int)) := k4 _ _ e3 (fun z => bL (.inl z)) (fun z => bL (.inr z))
          obtain ⟨y, my, _, hy⟩ := at_int (xs := [i + 1, i - 1, i + p, 0 - i, (i + 1) % p]) z0 z1
          refine ⟨L, _, z, .int y, rfl, rfl, .inl (.inl e4), hy, q H4 (.int y) (.int y) (t1 + 1 + 1) ((k02.trans (Kept.of s3)).trans k4) D4 (by omega) (.int y) (.inr ⟨y, rfl, ?_⟩)⟩
          have e1 := Int.emod_lt_of_pos (i + 1) (show (0 : Int) < p by omega)
          have e2 := Int.emod_nonneg (i + 1) (show p ≠ 0 by omega)
          simp only [List.mem_cons, List.not_mem_nil, or_false] at my
          omega
        · exact ⟨.ref d, rfl, .int p, rfl, d, c, t1 + 1, p, rfl, D2, by omega, fun H3 v' e' k3 D3 rv me => odd H3 _ v' e' k3 D3 (by omega) rv me⟩
      | succ j =>
        obtain ⟨ds, rfl, hl, hds⟩ := hpu
        obtain ⟨a, xs, rfl, hA, hx⟩ := rep_tup hv
        have lx := repAll_len hx
        have hA2 := tk2 _ _ _ hA
        refine iteT ⟨.int way, rfl, way, 0, rfl, rfl, _, rfl, ite2 (fun e1 => ?_) (fun _ => ?_)⟩
        · -- more, fewer, turned about
          refine ⟨.ref a, rfl, .ref d, rfl, .int p, rfl, d, c, t1 + 1, p, rfl, D2, by omega, fun H3 o eo k3 D3 ro mo => ?_⟩
          refine ⟨sz1000 (by decide : (1 : Nat) ≤ 1000), fun u nu => ?_⟩
          generalize h4 : upd H3 u _ = H4
          obtain ⟨s4, e4⟩ := new_of h4 nu
          have D4 := D3.same s4
          have k24 : Kept d c H2 H4 := k3.trans (Kept.of s4)
          have k04 := k02.trans k24
          have A4 : SqT K H4 a xs := Kept.tup D2 k24 hA2
          refine ⟨a, u, _, _, rfl, rfl, A4, .inl (.inl e4), sz1000 (by simp; omega), fun b1 H5 s5 hb1 => ?_⟩
          -- the six
          refine ⟨.ref a, rfl, a, xs, rfl, .inr (Same.tup s5 A4), fun b0 n0 => ?_⟩
          generalize h6 : upd H5 b0 _ = H6
          obtain ⟨s6, e6⟩ := new_of h6 n0
          have A6 := Same.tup (s5.trans s6) A4
          refine ⟨.ref b1, rfl, .ref a, rfl, 1, rfl, -1, rfl, a, xs, rfl, A6, fun b2 H7 s7 hb2 => ?_⟩
          have A7 := Same.tup s7 A6
          refine ⟨.ref a, rfl, a, xs, rfl, A7, fun b3 n3 => ?_⟩
          generalize h8 : upd H7 b3 _ = H8
          obtain ⟨s8, e8⟩ := new_of h8 n3
          have A8 := Same.tup s8 A7
          refine ⟨.ref a, rfl, .ref a, rfl, 1, rfl, -1, rfl, a, xs, rfl, A8, fun b5 H9 s9 hb5 => ?_⟩
          have A9 := Same.tup s9 A8
          refine ⟨a, b5, _, _, rfl, rfl, A9, hb5, ?_, fun b4 H10 s10 hb4 => ?_⟩
          · obtain ⟨i', k', ec⟩ := cut_mem (xs := xs) (lo := some (-1)) (hi := none)
            rw [ec, List.length_take, List.length_drop]
            exact sz1000 (by omega)
          have A10 := Same.tup s10 A9
          refine ⟨.ref a, rfl, 1, rfl, a, xs, rfl, A10, fun b6 H11 s11 hb6 => ?_⟩
          refine ⟨sz1000 (by decide : (6 : Nat) ≤ 1000), fun L nL => ?_⟩
          generalize h12 : upd H11 L _ = H12
          obtain ⟨s12, e12⟩ := new_of h12 nL
          have w11 := s12
          have w10 := s11.trans w11
          have w9 := s10.trans w10
          have w8 := s9.trans w9
          have w7 := s8.trans w8
          have w6 := s7.trans w7
          have w5 := s6.trans w6
          have w4 := s5.trans w5
          have D11 : Deck H11 d c (t1 + 1 + 1) := D4.same (((((((s5.trans s6).trans s7).trans s8).trans s9).trans s10)).trans s11)
          have bL := D11.fresh nL
          refine ⟨.ref L, rfl, .ref d, rfl, d, c, t1 + 1 + 1, 6, rfl, D11.same s12, by omega, by decide, by decide, fun H13 z k13 D13 z0 z1 => ?_⟩
          have e13 : H13 L = _ := k13 _ _ e12 (fun z => bL (.inl z)) (fun z => bL (.inr z))
          have t1213 : Tk H12 H13 := Tk.kept (D11.same s12) k13
          have k13' : Kept d c H H13 := (k04.trans (Kept.of w4)).trans k13
          have tkH : Tk H H13 := Tk.kept D0 k13'
          have pu : ∀ (ys : List V) (es : List PyData), (∀ x ∈ es, Pu j x) → RepAll K H NB ys es → RepAll K H13 (fun a => H a ≠ none) ys es := fun ys es h1 h2 => repAll_pure tkH j es ys h1 h2
          have hn : ∀ b, H b ≠ none → H2 b ≠ none := fun b hb z => by
            rcases hq : H b with _ | o
            · exact hb hq
            · by_cases z1 : b = d
              · subst z1; rw [D2.hd] at z; cases z
              · by_cases z2 : b = c
                · obtain ⟨cells, h1, _⟩ := D2.hc
                  subst z2; rw [h1] at z; cases z
                · rw [k02 b o hq z1 z2] at z; cases z
          have ro13 : Rep K H13 (fun a => H a ≠ none) o eo := by
            have r1 : Rep K H3 (fun a => H a ≠ none) o eo := rep_weak hn _ _ ro
            exact rep_stays ((Stays.of (s4.trans w4)).trans (Stays.kept2 (D11.same s12) k13 hdn hcn)) _ _ r1
          have bn : H b0 = none := by
            cases hq : H b0 with
            | none => rfl
            | some ob =>
              have D5 := D4.same s5
              have b0' := D5.fresh n0
              rw [s5 _ _ (k04 b0 ob hq (fun z => b0' (.inl z)) (fun z => b0' (.inr z)))] at n0
              cases n0
          have bad0 : ¬ Bad d c b0 := (D4.same s5).fresh n0
          have all : RepAll K H13 (fun a => H a ≠ none) [.ref b0, .ref b1, .ref b2, .ref b3, .ref b4, .ref b6] [.list ds, .tuple (ds ++ [eo]), .tuple ((ds.drop (HT.sIx xs.length 0 none)).take (HT.sIx xs.length xs.length (some (-1)) - HT.sIx xs.length 0 none)), .tuple ds.reverse, .tuple (ds ++ (ds.drop (HT.sIx xs.length 0 (some (-1)))).take (HT.sIx xs.length xs.length none - HT.sIx xs.length 0 (some (-1)))), .tuple ((ds.drop (HT.sIx xs.length 0 (some 1))).take (HT.sIx xs.length xs.length none - HT.sIx xs.length 0 (some 1)))] := by
            refine .cons (.lst (k13 _ _ (w6 _ _ e6) (fun z => bad0 (.inl z)) (fun z => bad0 (.inr z))) (fun z => z bn) (pu _ _ hds hx)) <| .cons (.tup (t1213 _ _ _ (Same.tup w5 hb1)) (repAll_append (pu _ _ hds hx) (.cons ro13 .nil))) <| .cons (.tup (t1213 _ _ _ (Same.tup w7 hb2)) ?_) <|
              .cons (.tup (t1213 _ _ _ (Same.tup w8 (.inl (.inl e8)))) (pu _ _ (fun x hx => hds x (List.mem_reverse.mp hx)) (repAll_rev hx))) <| .cons (.tup (t1213 _ _ _ (Same.tup w10 hb4)) (repAll_append (pu _ _ hds hx) ?_)) <| .cons (.tup (t1213 _ _ _ (Same.tup w11 hb6)) ?_) .nil
            · exact pu _ _ (take_pu (drop_pu hds _) _) (repAll_take _ (repAll_drop _ hx))
            · exact pu _ _ (take_pu (drop_pu hds _) _) (repAll_take _ (repAll_drop _ hx))
            · exact pu _ _ (take_pu (drop_pu hds _) _) (repAll_take _ (repAll_drop _ hx))
          have hz : z.toNat < ([.ref b0, .ref b1, .ref b2, .ref b3, .ref b4, .ref b6] : List V).length := by
            show z.toNat < 6
            omega
          have gz : ([.ref b0, .ref b1, .ref b2, .ref b3, .ref b4, .ref b6] : List V)[z.toNat]? = some _ := List.getElem?_eq_getElem hz
          obtain ⟨e', _, me', re'⟩ := repAll_get all gz
          refine ⟨L, _, z, _, rfl, rfl, .inl (.inl e13), at_of (j := z.toNat) (by omega) gz, q H13 _ e' (t1 + 1 + 1 + 1) k13' D13 (by omega) re' ?_⟩
          have ln : ∀ (i k : Nat), ((ds.drop i).take k).length ≤ 30 := fun i k => by
            rw [List.length_take, List.length_drop]
            omega
          simp only [List.mem_cons, List.not_mem_nil, or_false] at me'
          rcases me' with rfl | rfl | rfl | rfl | rfl | rfl
          · exact .inr (.inr (.inr ⟨ds, rfl, by omega, hds⟩))
          · exact .inr (.inl ⟨ds, eo, [], rfl, by omega, by simp, hds, (fun x hx => nomatch hx), bt_odd mo j⟩)
          · exact .inr (.inr (.inl ⟨_, rfl, Nat.le_trans (ln _ _) (by decide), take_pu (drop_pu hds _) _⟩))
          · exact .inr (.inr (.inl ⟨_, rfl, by rw [List.length_reverse]; omega, fun x hx => hds x (List.mem_reverse.mp hx)⟩))
          · refine .inr (.inr (.inl ⟨_, rfl, by rw [List.length_append]; have := ln (HT.sIx xs.length 0 (some (-1))) (HT.sIx xs.length xs.length none - HT.sIx xs.length 0 (some (-1))); omega, fun x hx => ?_⟩))
            rcases List.mem_append.mp hx with h | h
            · exact hds x h
            · exact take_pu (drop_pu hds _) _ x h
          · exact .inr (.inr (.inl ⟨_, rfl, Nat.le_trans (ln _ _) (by decide), take_pu (drop_pu hds _) _⟩))
        · -- an odd thing
          refine ⟨.ref a, rfl, .ref a, .tup, rfl, kd_tup hA2, _, rfl, iteF (iteF ?_)⟩
          exact ⟨.ref d, rfl, .int p, rfl, d, c, t1 + 1, p, rfl, D2, by omega, fun H3 v' e' k3 D3 rv me => odd H3 _ v' e' k3 D3 (by omega) rv me⟩
def sp_bent1 (K : PySem.W.Frag) : Sp := fun vs H Q _ => ∃ (d c : Addr) (t p dp : Int) (v : V) (e : PyData), vs = [.ref d, .int p, v, .int dp] ∧ Deck H d c t ∧ t ≤ 900000 ∧ 2 ≤ p ∧ p ≤ 1000 ∧ Rep K H NB v e ∧ Pu 1 e ∧
  ∀ (H' : Hp) (v' : V) (e' : PyData) (t' : Int), Kept d c H H' → Deck H' d c t' → t' ≤ t + 8 → Rep K H' (fun a => H a ≠ none) v' e' → Bt p 1 e' → Q v' H'
theorem ok_bent1 (T : Top K mg) : Ok P w K mg base 4 "_law_bent" ["_law_deck_here", "_law_p", "_law_thing", "_law_deep"] (sp_bent1 K) := by
  have O0 : Ok P w K mg base 2 "_law_bent" ["_law_deck_here", "_law_p", "_law_thing", "_law_deep"] (spB K 0) := (T.d__law_bent.ok (k := 0) sc__law_bent (fun vs H Q E h => h.elim) fun f cdv A outer s H vs Q E hr h => h.elim).mono (by decide)
  refine (bent_step T 1 1 (bent_step T 0 0 O0)).imp fun vs H Q E h => ?_
  obtain ⟨d, c, t, p, dp, v, e, rfl, D0, ht, hp1, hp2, hv, hpu, q⟩ := h
  refine ⟨d, c, t, p, dp, v, e, rfl, D0, ?_, hp1, hp2, hv, hpu, fun H' v' e' t' k D h r b => q H' v' e' t' k D ?_ r b⟩
  · show t + 10 * (((1 : Nat) : Int) + 1) ≤ 990000
    omega
  · have h : t' ≤ t + 4 * (((1 : Nat) : Int) + 1) := h
    omega

end
end OC

set_option Elab.async false
set_option linter.all false
set_option maxRecDepth 100000
namespace OC
open PySem PySem.Spec PyProof.Rows L2
/-! ### things in a list that grows -/
mutual
theorem rep_fresh {K : PySem.W.Frag} {bad : Addr → Prop} {H : Hp} {B : Addr} (n : H B = none) : ∀ (d : PyData) (v : V), Rep K H bad v d → Rep K H (fun a => bad a ∨ a = B) v d
  | .none, _, h => by cases h; exact .non
  | .bool b, _, h => by cases h; exact .bl b
  | .int i, _, h => by cases h; exact .int i
  | .str x, _, h => by cases h; exact .str x
  | .list ds, _, h => by
    cases h with
    | lst hs hb ha => exact .lst hs (fun z => z.elim hb (fun e => by subst e; rw [n] at hs; cases hs)) (repAll_fresh n ds _ ha)
  | .tuple ds, _, h => by
    cases h with
    | tup hs ha => exact .tup hs (repAll_fresh n ds _ ha)
  | .dict _, _, h => by
    cases h with
    | dct hs hf => exact .dct hs hf
theorem repAll_fresh {K : PySem.W.Frag} {bad : Addr → Prop} {H : Hp} {B : Addr} (n : H B = none) : ∀ (ds : List PyData) (vs : List V), RepAll K H bad vs ds → RepAll K H (fun a => bad a ∨ a = B) vs ds
  | [], _, h => by cases h; exact .nil
  | d :: ds, _, h => by
    cases h with
    | cons h1 h2 => exact .cons (rep_fresh n d _ h1) (repAll_fresh n ds _ h2)
end
theorem upd_stays {bad : Addr → Prop} {H H' : Hp} {D : Addr} {xs ys : List V} (s : Stays bad H H') (h : H' D = some (.lst xs)) (bD : bad D) : Stays bad H (upd H' D (.lst ys)) := by
  refine ⟨s.t.mut h, fun a zs q => ?_, fun a zs q n => ?_⟩
  · have := s.d a zs q
    rw [upd_ne (fun z => by subst z; rw [h] at this; cases this)]
    exact this
  · rw [upd_ne (fun z => n (by rw [z]; exact bD))]
    exact s.l a zs q n
theorem Deck.mut {H : Hp} {d c B : Addr} {t : Int} {o : HO} (D : Deck H d c t) (b : ¬ Bad d c B) : Deck (upd H B o) d c t := by
  obtain ⟨hd, ⟨cells, h1, h2⟩, n, t0⟩ := D
  exact ⟨by rw [upd_ne (fun z => b (.inl z.symm))]; exact hd, ⟨cells, by rw [upd_ne (fun z => b (.inr z.symm))]; exact h1, h2⟩, n, t0⟩
theorem Kept.mut {H H' : Hp} {d c B : Addr} {o : HO} (k : Kept d c H H') (n : H B = none) : Kept d c H (upd H' B o) := fun b x h n1 n2 => by
  rw [upd_ne (ne_of_none h n)]
  exact k b x h n1 n2
/-- what a thing of this law is -/
structure TOk (e : PyData) : Prop where
  l : lenOk e
  f : Fit e
theorem tok_pu {n : Nat} {e : PyData} (h : Pu n e) (hn : n ≤ 2) : TOk e := by
  have f := pu_fit n e h
  refine ⟨?_, f.fit ?_ (by omega)⟩
  · cases n with
    | zero => obtain ⟨i, rfl, _⟩ := h; exact True.intro
    | succ n => obtain ⟨ds, rfl, hl, _⟩ := h; exact Nat.le_trans hl (by decide)
  · match n, hn with
    | 0, _ => decide
    | 1, _ => decide
    | 2, _ => decide
theorem tok_bt {p : Int} (hp1 : 2 ≤ p) (hp2 : p ≤ 1000) {n : Nat} {e : PyData} (h : Bt p n e) (hn : n ≤ 1) : TOk e := by
  have hp : p.natAbs < 10 ^ 30 := Nat.lt_of_le_of_lt (show p.natAbs ≤ 1000 by omega) (by decide)
  have f := bt_fit hp n e h
  refine ⟨?_, f.fit ?_ (by omega)⟩
  · have odd : e ∈ oddD p → lenOk e := fun m => by
      unfold oddD at m
      simp only [List.mem_cons, List.not_mem_nil, or_false] at m
      rcases m with rfl | rfl | rfl | rfl | rfl | rfl | rfl | rfl | rfl | rfl | rfl | rfl | rfl | rfl | rfl | rfl | rfl | rfl
      all_goals first | exact True.intro | exact (by decide : (0 : Nat) ≤ 1000) | exact (by decide : (1 : Nat) ≤ 1000)
    cases n with
    | zero =>
      rcases h with h | ⟨i, rfl, _⟩
      · exact odd h
      · exact True.intro
    | succ n =>
      rcases h with h | ⟨as, e', bs, rfl, la, lb, _⟩ | ⟨ds, rfl, hl, _⟩ | ⟨ds, rfl, _⟩
      · exact odd h
      · show (as ++ e' :: bs).length ≤ 1000
        rw [List.length_append, List.length_cons]
        omega
      · exact Nat.le_trans hl (by decide)
      · exact True.intro
  · match n, hn with
    | 0, _ => decide
    | 1, _ => decide
theorem pu_row {p : Int} {r : List Int} (h : RowOk p r) (hp : p ≤ 1000) (hl : r.length ≤ 20) : Pu 1 (rowD r) := by
  refine ⟨_, rfl, by rw [List.length_map]; omega, fun x hx => ?_⟩
  obtain ⟨i, mi, rfl⟩ := List.mem_map.mp hx
  have := h i mi
  exact ⟨i, rfl, by omega, by omega⟩
theorem pu_rep {x : Int} (hx : -1000000 ≤ x ∧ x ≤ 1000000) {n : Nat} (hn : n ≤ 20) : Pu 1 (rowD (List.replicate n x)) := by
  refine ⟨_, rfl, by rw [List.length_map, List.length_replicate]; omega, fun y hy => ?_⟩
  obtain ⟨i, mi, rfl⟩ := List.mem_map.mp hy
  have := List.eq_of_mem_replicate mi
  exact ⟨i, rfl, by omega, by omega⟩
section
variable {P : Program} {w : World} {K : PySem.W.Frag} {mg : Str → Option Value} {base : Heap}
def sp_law (K : PySem.W.Frag) : Sp := fun vs H Q _ => ∃ (a : Addr) (ns : List Int), vs = [.ref a] ∧ SqL K H a (ns.map V.int) ∧ ns.length ≤ 63 ∧ ∀ H', Q (.bl true) H'
theorem ok_law (T : Top K mg) {f : Addr} {fd : FuncData} (F : Fun K "law" "law" s_law f fd) : FnG P w K mg base CX0 5 f fd ["_law_script"] (sp_law K) := by
  have O__law_deck := ok__law_deck (P := P) (w := w) (base := base) T
  have O__law_draw := ok__law_draw (P := P) (w := w) (base := base) T
  have O__law_prime := ok__law_prime (P := P) (w := w) (base := base) T
  have O__law_row := ok__law_row (P := P) (w := w) (base := base) T
  have O__law_odd := ok__law_odd (P := P) (w := w) (base := base) T
  have O__law_bent := ok_bent1 (P := P) (w := w) (base := base) T
  have O__law_right := ok__law_right (P := P) (w := w) (base := base) T
  refine funG F sc_law (fun vs H Q E h => ?_) (fun cdv A outer s H vs Q E hr hgd h => ?_)
  · obtain ⟨a, ns, rfl, _⟩ := h
    rfl
  · obtain ⟨a, ns, rfl, hS, hl, q⟩ := h
    refine ⟨_, ((pss_cons (ps_set (i := 1) sc_law.nd rfl (.inr rfl) (pe_callO O__law_deck (hr.mono (by omega)) (by rfl) (pa_cons (pv 0) pa_nil)))
      (pss_cons (ps_for PassesOwn.never (by rfl) (pi_range1 (by rfl) T.b_range (pa_cons pe_int pa_nil)) (pg_name (i := 2) sc_law.nd rfl (.inl rfl))
        (pss_cons (ps_set (i := 3) sc_law.nd rfl (.inr rfl) (pe_callO O__law_prime (hr.mono (by omega)) (by rfl) (pa_cons (pv 1) pa_nil)))
        (pss_cons (ps_set (i := 4) sc_law.nd rfl (.inr rfl) (pe_op op_add pe_int (pe_callO O__law_draw (hr.mono (by omega)) (by rfl) (pa_cons (pv 1) (pa_cons pe_int pa_nil)))))
        (pss_cons (ps_set (i := 5) sc_law.nd rfl (.inr rfl) (pe_callO O__law_row (hr.mono (by omega)) (by rfl) (pa_cons (pv 1) (pa_cons (pv 3) (pa_cons (pv 4) pa_nil)))))
        (pss_cons (ps_set (i := 6) sc_law.nd rfl (.inl rfl) (pe_lst (pa_cons (pv 5) (pa_cons (pe_callTy call_list_of (by rfl) T.b_list (by decide +kernel) (pa_cons (pv 5) pa_nil)) (pa_cons (pe_tup (pa_cons (pv 5) pa_nil)) (pa_cons (pe_op op_catB (pv 5) (pe_tup (pa_cons (pe_op op_sub (pv 3) pe_int) pa_nil))) (pa_cons (pe_callO O__law_odd (hr.mono (by omega)) (by rfl) (pa_cons (pv 1) (pa_cons (pv 3) pa_nil))) (pa_cons (pe_tup pa_nil) (pa_cons (pe_op op_repB (pe_tup (pa_cons pe_int pa_nil)) (pv 4)) (pa_cons (pe_op op_repB (pe_tup (pa_cons (pe_op op_sub (pv 3) pe_int) pa_nil)) (pv 4)) (pa_cons (pe_op op_repB (pe_tup (pa_cons (pv 3) pa_nil)) (pv 4)) pa_nil)))))))))))
        (pss_cons (ps_set (i := 6) sc_law.nd rfl (.inl rfl) (pe_op op_cat (pv 6) (pe_lc (own := [("_law_k", 7)]) (g := gName 7) (by rfl) sc_law.nd (pi_range1 (by rfl) T.b_range (pa_cons pe_int pa_nil)) (blkOk_by (own := [("_law_k", 7)]) (N := N_law) (sc := defScope s_law) (by decide +kernel)) (fun _ _ _ _ _ => (pg_name (i := 7) sc_law.nd rfl (.inl rfl))) (fun _ _ _ _ _ => pts_nil) (fun _ _ _ _ _ => (pe_callO O__law_bent (hr.mono (by omega)) (by rfl) (pa_cons (pv 1) (pa_cons (pv 3) (pa_cons (pv 5) (pa_cons (pe_op op_add pe_int (pe_callO O__law_draw (hr.mono (by omega)) (by rfl) (pa_cons (pv 1) (pa_cons pe_int pa_nil)))) pa_nil)))))))))
        (pss_one (ps_if (pt_cmpR (op_neNil hr.units) (pe_lc (own := [("_law_thing", 8)]) (g := gName 8) (by rfl) sc_law.nd (pi_list (pv 6)) (blkOk_by (own := [("_law_thing", 8)]) (N := N_law) (sc := defScope s_law) (by decide +kernel)) (fun _ _ _ _ _ => (pg_name (i := 8) sc_law.nd rfl (.inl rfl))) (fun _ _ _ _ _ => (pts_one (pt_not (pt_val (pe_callG O__law_right (hr.mono (by omega)) hgd (by rfl) (pa_cons (pv 3) (pa_cons (pv 4) (pa_cons (pv 8) pa_nil)))))))) (fun _ _ _ _ _ => (pv 8))) (pe_lst pa_nil) (nomark _))
          (pss_one (ps_ret pe_bl))
          pss_nil))))))))
      (pss_one (ps_ret pe_bl))))), ?_⟩
    refine ⟨.ref a, rfl, a, ns, rfl, hS, hl, fun H1 d c s1 D1 nd nc => ?_⟩
    refine ⟨4, rfl, by decide, by decide, for_range (lo := 0) (n := 4) (fun i σ H' => ∃ t' : Int, Deck H' d c t' ∧ t' ≤ 200 * i ∧ ∃ y2 y3 y4 y5 y6 y7 y8 : Option V, σ = [some (.ref a), some (.ref d), y2, y3, y4, y5, y6, y7, y8]) ⟨0, D1, by decide, none, none, none, none, none, none, none, rfl⟩ (fun i σ H2 hi hW => ?_) (fun σ H' _ => q H')⟩
    obtain ⟨t2, D2, ht2, y2, y3, y4, y5, y6, y7, y8, rfl⟩ := hW
    refine ⟨.ref d, rfl, d, c, t2, rfl, D2, by omega, fun H3 p k3 D3 hp => ?_⟩
    obtain ⟨b1, b2⟩ := pr8_bd p hp
    refine ⟨.ref d, rfl, d, c, _, 8, rfl, D3, by omega, by decide, by decide, fun H4 z k4 D4 z0 z1 => ?_⟩
    refine ⟨1, z, rfl, rfl, ?_⟩
    dsimp only
    generalize hn : 1 + z = n
    have n1 : 1 ≤ n := by omega
    have n8 : n ≤ 8 := by omega
    clear hn z0 z1
    refine ⟨.ref d, rfl, .int p, rfl, .int n, rfl, d, c, _, p, n, rfl, D4, by omega, by omega, by omega, by omega, by omega, fun H5 a1 x t5 k5 D5 h5 n5 e5 lx rx => ?_⟩
    have A5 : SqT K H5 a1 (x.map V.int) := .inl (.inl e5)
    have px : Pu 1 (rowD x) := pu_row rx (by omega) (by omega)
    -- the nine
    refine ⟨.ref a1, rfl, .ref a1, rfl, a1, _, rfl, .inr A5, fun l0 nl0 => ?_⟩
    generalize h6 : upd H5 l0 _ = H6
    obtain ⟨s6, e6⟩ := new_of h6 nl0
    have D6 := D5.same s6
    have bad0 : ¬ Bad d c l0 := D5.fresh nl0
    refine ⟨.ref a1, rfl, sz1000 (by decide : (1 : Nat) ≤ 1000), fun u0 nu0 => ?_⟩
    generalize h7 : upd H6 u0 _ = H7
    obtain ⟨s7, e7⟩ := new_of h7 nu0
    have A7 := Same.tup (s6.trans s7) A5
    refine ⟨.ref a1, rfl, .int p, rfl, p, 1, rfl, rfl, sz1000 (by decide : (1 : Nat) ≤ 1000), fun u1 nu1 => ?_⟩
    generalize h8 : upd H7 u1 _ = H8
    obtain ⟨s8, e8⟩ := new_of h8 nu1
    have e8 : H8 u1 = some (.tup ([p - 1].map V.int)) := e8
    refine ⟨a1, u1, _, _, rfl, rfl, Same.tup s8 A7, .inl (.inl e8), sz1000 (by simp; omega), fun u2 H9 s9 hu2 => ?_⟩
    have D9 : Deck H9 d c t5 := D6.same ((s7.trans s8).trans s9)
    refine ⟨.ref d, rfl, .int p, rfl, d, c, t5, p, rfl, D9, by omega, fun H10 o eo k10 D10 ro mo => ?_⟩
    refine ⟨Nat.zero_le _, fun u3 nu3 => ?_⟩
    generalize h11 : upd H10 u3 _ = H11
    obtain ⟨s11, e11⟩ := new_of h11 nu3
    refine ⟨sz1000 (by decide : (1 : Nat) ≤ 1000), fun z1 nz1 => ?_⟩
    generalize h12 : upd H11 z1 _ = H12
    obtain ⟨s12, e12⟩ := new_of h12 nz1
    have e12 : H12 z1 = some (.tup ([0].map V.int)) := e12
    refine ⟨.int n, rfl, z1, n, _, rfl, rfl, .inl (.inl e12), List.cons_ne_nil _ _, n1, by omega, by decide, fun v1 H13 s13 hv1 => ?_⟩
    have hv1 : SqT K H13 v1 ((List.replicate n.toNat (0 : Int)).map V.int) := (rep_int n.toNat 0) ▸ hv1
    refine ⟨.int p, rfl, p, 1, rfl, rfl, sz1000 (by decide : (1 : Nat) ≤ 1000), fun z2 nz2 => ?_⟩
    generalize h14 : upd H13 z2 _ = H14
    obtain ⟨s14, e14⟩ := new_of h14 nz2
    have e14 : H14 z2 = some (.tup ([p - 1].map V.int)) := e14
    refine ⟨.int n, rfl, z2, n, _, rfl, rfl, .inl (.inl e14), List.cons_ne_nil _ _, n1, by omega, (by show 1 ≤ 1000; decide), fun v2 H15 s15 hv2 => ?_⟩
    have hv2 : SqT K H15 v2 ((List.replicate n.toNat (p - 1)).map V.int) := (rep_int n.toNat (p - 1)) ▸ hv2
    refine ⟨.int p, rfl, sz1000 (by decide : (1 : Nat) ≤ 1000), fun z3 nz3 => ?_⟩
    generalize h16 : upd H15 z3 _ = H16
    obtain ⟨s16, e16⟩ := new_of h16 nz3
    have e16 : H16 z3 = some (.tup ([p].map V.int)) := e16
    refine ⟨.int n, rfl, z3, n, _, rfl, rfl, .inl (.inl e16), List.cons_ne_nil _ _, n1, by omega, (by show 1 ≤ 1000; decide), fun v3 H17 s17 hv3 => ?_⟩
    have hv3 : SqT K H17 v3 ((List.replicate n.toNat p).map V.int) := (rep_int n.toNat p) ▸ hv3
    refine ⟨sz1000 (by decide : (9 : Nat) ≤ 1000), fun M nM => ?_⟩
    generalize h18 : upd H17 M _ = H18
    obtain ⟨s18, e18⟩ := new_of h18 nM
    have w17 := s18
    have w15 := (s16.trans s17).trans w17
    have w13 := (s14.trans s15).trans w15
    have w11 := (s12.trans s13).trans w13
    have w10 := s11.trans w11
    have D18 : Deck H18 d c (t5 + 1) := D10.same w10
    have bM : ¬ Bad d c M := (D10.same ((s11.trans (s12.trans s13)).trans ((s14.trans s15).trans (s16.trans s17)))).fresh nM
    have t918 : Tk H9 H18 := (Tk.kept D9 k10).trans (Tk.of w10)
    have s59 : Same H5 H9 := ((s6.trans s7).trans s8).trans s9
    have t518 : Tk H5 H18 := (Tk.of s59).trans t918
    have A18 := t518 _ _ _ A5
    have rowR : ∀ {H' : Hp}, SqT K H' a1 (x.map V.int) → Rep K H' (Bad d c) (.ref a1) (rowD x) := fun h => row_rep h
    have st1018 : Stays (Bad d c) H10 H18 := Stays.of w10
    have st918 : Stays (Bad d c) H9 H18 := (Stays.kept D9 k10).trans st1018
    have all18 : ∃ es, RepAll K H18 (Bad d c) [.ref a1, .ref l0, .ref u0, .ref u2, o, .ref u3, .ref v1, .ref v2, .ref v3] es ∧ ∀ e ∈ es, TOk e := by
      refine ⟨[rowD x, .list (x.map PyData.int), .tuple [rowD x], rowD (x ++ [p - 1]), eo, .tuple [], rowD (List.replicate n.toNat 0), rowD (List.replicate n.toNat (p - 1)), rowD (List.replicate n.toNat p)], ?_, ?_⟩
      · refine .cons (rowR A18) <| .cons (.lst (st918.l _ _ (s9 _ _ (s8 _ _ (s7 _ _ e6))) bad0) bad0 (repAll_ints x)) <| .cons (.tup (t918 _ _ _ (.inl (.inl (s9 _ _ (s8 _ _ e7))))) (.cons (rowR A18) .nil)) <| .cons ?_ <| .cons ?_ <| .cons (.tup (.inl (.inl (w11 _ _ e11))) .nil) <|
          .cons (row_rep (Same.tup w13 hv1)) <| .cons (row_rep (Same.tup w15 hv2)) <| .cons (row_rep (Same.tup w17 hv3)) .nil
        · refine row_rep (t918 _ _ _ ?_)
          rw [List.map_append]
          exact hu2
        · refine rep_stays st1018 _ _ (rep_weak (fun b hb => ?_) _ _ ro)
          rcases hb with z | z
          · subst z; rw [D9.hd]; exact fun h => nomatch h
          · obtain ⟨cells, h1, _⟩ := D9.hc
            subst z; rw [h1]; exact fun h => nomatch h
      · intro e me
        simp only [List.mem_cons, List.not_mem_nil, or_false] at me
        have pxi : ∀ y ∈ x.map PyData.int, Pu 0 y := fun y hy => by
          obtain ⟨j, mj, rfl⟩ := List.mem_map.mp hy
          have := rx j mj
          exact ⟨j, rfl, by omega, by omega⟩
        rcases me with rfl | rfl | rfl | rfl | rfl | rfl | rfl | rfl | rfl
        · exact tok_pu px (by decide)
        · exact tok_bt (p := p) (n := 1) (by omega) (by omega) (.inr (.inr (.inr ⟨_, rfl, by rw [List.length_map]; omega, pxi⟩))) (by decide)
        · exact tok_pu (n := 2) ⟨_, rfl, (by decide : (1 : Nat) ≤ 30), fun y hy => by (have : y = rowD x := by simpa using hy); rw [this]; exact px⟩ (by decide)
        · refine tok_pu (pu_row (p := p) (fun y hy => ?_) (by omega) (by rw [List.length_append]; simp; omega)) (by decide)
          rcases List.mem_append.mp hy with h | h
          · exact rx y h
          · have : y = p - 1 := by simpa using h
            omega
        · exact tok_bt (n := 0) (by omega) (by omega) (.inl mo) (by decide)
        · exact tok_pu (n := 1) ⟨[], rfl, by decide, fun y hy => nomatch hy⟩ (by decide)
        · exact tok_pu (pu_rep (by omega) (by omega)) (by decide)
        · exact tok_pu (pu_rep (by omega) (by omega)) (by decide)
        · exact tok_pu (pu_rep (by omega) (by omega)) (by decide)
    obtain ⟨es, all18, tok⟩ := all18
    have e18 : H18 M = some (.lst [.ref a1, .ref l0, .ref u0, .ref u2, o, .ref u3, .ref v1, .ref v2, .ref v3]) := e18
    -- the bent ones
    refine ⟨.ref M, rfl, 6, rfl, by decide, by decide, fun B nB => ?_⟩
    have bB := D18.fresh nB
    have bMB : M ≠ B := ne_of_none e18 nB
    refine lc_range (lo := 0) (n := 6) (fun j H' => Kept d c H18 H' ∧ ∃ (t' : Int) (vs : List V) (fs : List PyData), Deck H' d c t' ∧ t' ≤ t5 + 1 + 10 * j ∧ H' B = some (.lst vs) ∧ vs.length = j ∧ RepAll K H' (fun a => Bad d c a ∨ a = B) vs fs ∧ ∀ e ∈ fs, TOk e) ⟨Kept.of (same_upd nB), t5 + 1, [], [], D18.same (same_upd nB), by omega, upd_same, rfl, .nil, fun e he => nomatch he⟩ (fun j H' hj hW => ?_) (fun H' hW => ?_)
    · obtain ⟨k', t', vs, fs, D', ht', eB, lv, rp, tk⟩ := hW
      refine ⟨rfl, .ref d, rfl, .int p, rfl, .ref a1, rfl, .ref d, rfl, d, c, t', 2, rfl, D', by omega, by decide, by decide, fun Ha g ka Da g0 g1 => ?_⟩
      have Aa : SqT K Ha a1 (x.map V.int) := Kept.tup D' ka (Kept.tup D18 k' A18)
      refine ⟨1, g, rfl, rfl, d, c, t' + 1, p, 1 + g, .ref a1, rowD x, rfl, Da, by omega, by omega, by omega, row_rep Aa, px, fun Hb v' e' tb kb Db htb rv bt => ?_⟩
      have kab := ka.trans kb
      have eB' := kab _ _ eB (fun z => bB (.inl z)) (fun z => bB (.inr z))
      have eBa := ka _ _ eB (fun z => bB (.inl z)) (fun z => bB (.inr z))
      refine ⟨vs, eB', small1000 (by omega), (k'.trans kab).mut nB, tb, vs ++ [v'], fs ++ [e'], Db.mut bB, by omega, upd_same, by rw [List.length_append, lv]; rfl, ?_, fun e he => ?_⟩
      · have st : Stays (fun a => Bad d c a ∨ a = B) H' (upd Hb B (.lst (vs ++ [v']))) := upd_stays (Stays.kept2 D' kab (.inl (.inl rfl)) (.inl (.inr rfl))) eB' (.inr rfl)
        have st2 : Stays (fun a => Bad d c a ∨ a = B) Hb (upd Hb B (.lst (vs ++ [v']))) := upd_stays (Stays.of (Same.refl Hb)) eB' (.inr rfl)
        refine repAll_append (repAll_stays st _ _ rp) (.cons (rep_stays st2 _ _ (rep_weak (fun b hb => ?_) _ _ rv)) .nil)
        rcases hb with (z | z) | z
        · subst z; rw [Da.hd]; exact fun h => nomatch h
        · obtain ⟨cells, h1, _⟩ := Da.hc
          subst z; rw [h1]; exact fun h => nomatch h
        · subst z; rw [eBa]; exact fun h => nomatch h
      · rcases List.mem_append.mp he with h | h
        · exact tk e h
        · have : e = e' := by simpa using h
          rw [this]
          exact tok_bt (by omega) (by omega) bt (by decide)
    · obtain ⟨k', t', vs, fs, D', ht', eB, lv, rp, tk⟩ := hW
      have eM' := k' _ _ e18 (fun z => bM (.inl z)) (fun z => bM (.inr z))
      have r1 : RepAll K H' (Bad d c) _ es := repAll_stays (Stays.kept D18 k') _ _ all18
      have rall : RepAll K H' NB _ (es ++ fs) := repAll_append (repAll_weak (fun _ h => h.elim) _ _ r1) (repAll_weak (fun _ h => h.elim) _ _ rp)
      refine ⟨M, B, _, _, rfl, rfl, eM', eB, sz1000 (by simp; omega), fun N nN => ?_⟩
      generalize hN : upd H' N _ = HN
      obtain ⟨sN, eN⟩ := new_of hN nN
      have rN := repAll_stays (Stays.of (bad := NB) sN) _ _ rall
      have DN := D'.same sN
      refine ⟨.ref N, rfl, N, rfl, ⟨_, .inl (.inl eN)⟩, fun D nD => ?_⟩
      refine lc_it (walk_list (K := K) (a := N)) (fun j H'' => Same HN H'' ∧ H'' D = some (.lst [])) ⟨same_upd nD, upd_same⟩ (fun j H'' _ hP => .inl (.inl (hP.1 _ _ eN))) (fun j v Ha Hb hj hP hY => ?_) (fun H'' hP => ?_)
      · obtain ⟨rfl, gv⟩ := hY
        obtain ⟨sm, eD⟩ := hP
        obtain ⟨e, _, me, re⟩ := repAll_get rN gv
        have te : TOk e := by
          rcases List.mem_append.mp me with h | h
          · exact tok e h
          · exact tk e h
        exact ⟨rfl, .int p, rfl, .int n, rfl, v, rfl, p, n, v, e, rfl, rep_stays (Stays.of sm) _ _ re, te.l, te.f, fun Hc sc => ⟨true, rfl, iteF ⟨sm.trans sc, sc _ _ eD⟩⟩⟩
      · obtain ⟨sm, eD⟩ := hP
        refine ⟨Nat.zero_le _, fun z nz => ?_⟩
        generalize hz : upd H'' z _ = Hz
        obtain ⟨sz, ez⟩ := new_of hz nz
        refine ⟨D, z, [], rfl, rfl, sz _ _ eD, ez, _, rfl, iteF ⟨t', DN.same (sm.trans sz), by omega, _, _, _, _, _, _, _, rfl⟩⟩
end
/-! ### the end -/
theorem all_mk {l : PySem.W.OpenLaw} {w : World} {K : PySem.W.Frag} {h : Heap} {mg : Str → Option Value} {fa : Addr} (X : K.In h) (G : h.Ns mainGlobals mg) (hfa : mg "law" = some (.ref fa))
    {f0 : Addr} {od0 an0 : Option Addr} {sl0 : Array (Option Value)} {oc0 kV0 dc0 pm0 cd0 ct0 : Value}
    (a0 : PySem.W.nsIn K mainGlobals "is_number" = some (some (.ref f0))) (l0 : K.lookup f0 = some ⟨oc0, od0, .func (PySem.W.fnOf "is_number" "is_number" (defArgs s_is_number) (defBody s_is_number) (defScope s_is_number) .none kV0 dc0 pm0 an0 cd0 ct0), sl0⟩) (c0 : PySem.W.codeIn K cd0 "is_number" = true) (k0 : PySem.W.keepIn K (.ref f0) = true)
    {f1 : Addr} {od1 an1 : Option Addr} {sl1 : Array (Option Value)} {oc1 kV1 dc1 pm1 cd1 ct1 : Value}
    (a1 : PySem.W.nsIn K mainGlobals "is_rest" = some (some (.ref f1))) (l1 : K.lookup f1 = some ⟨oc1, od1, .func (PySem.W.fnOf "is_rest" "is_rest" (defArgs s_is_rest) (defBody s_is_rest) (defScope s_is_rest) .none kV1 dc1 pm1 an1 cd1 ct1), sl1⟩) (c1 : PySem.W.codeIn K cd1 "is_rest" = true) (k1 : PySem.W.keepIn K (.ref f1) = true)
    {f2 : Addr} {od2 an2 : Option Addr} {sl2 : Array (Option Value)} {oc2 kV2 dc2 pm2 cd2 ct2 : Value}
    (a2 : PySem.W.nsIn K mainGlobals "is_row" = some (some (.ref f2))) (l2 : K.lookup f2 = some ⟨oc2, od2, .func (PySem.W.fnOf "is_row" "is_row" (defArgs s_is_row) (defBody s_is_row) (defScope s_is_row) .none kV2 dc2 pm2 an2 cd2 ct2), sl2⟩) (c2 : PySem.W.codeIn K cd2 "is_row" = true) (k2 : PySem.W.keepIn K (.ref f2) = true)
    {f3 : Addr} {od3 an3 : Option Addr} {sl3 : Array (Option Value)} {oc3 kV3 dc3 pm3 cd3 ct3 : Value}
    (a3 : PySem.W.nsIn K mainGlobals "_law_deck" = some (some (.ref f3))) (l3 : K.lookup f3 = some ⟨oc3, od3, .func (PySem.W.fnOf "_law_deck" "_law_deck" (defArgs s__law_deck) (defBody s__law_deck) (defScope s__law_deck) .none kV3 dc3 pm3 an3 cd3 ct3), sl3⟩) (c3 : PySem.W.codeIn K cd3 "_law_deck" = true) (k3 : PySem.W.keepIn K (.ref f3) = true)
    {f4 : Addr} {od4 an4 : Option Addr} {sl4 : Array (Option Value)} {oc4 kV4 dc4 pm4 cd4 ct4 : Value}
    (a4 : PySem.W.nsIn K mainGlobals "_law_draw" = some (some (.ref f4))) (l4 : K.lookup f4 = some ⟨oc4, od4, .func (PySem.W.fnOf "_law_draw" "_law_draw" (defArgs s__law_draw) (defBody s__law_draw) (defScope s__law_draw) .none kV4 dc4 pm4 an4 cd4 ct4), sl4⟩) (c4 : PySem.W.codeIn K cd4 "_law_draw" = true) (k4 : PySem.W.keepIn K (.ref f4) = true)
    {f5 : Addr} {od5 an5 : Option Addr} {sl5 : Array (Option Value)} {oc5 kV5 dc5 pm5 cd5 ct5 : Value}
    (a5 : PySem.W.nsIn K mainGlobals "_law_whole" = some (some (.ref f5))) (l5 : K.lookup f5 = some ⟨oc5, od5, .func (PySem.W.fnOf "_law_whole" "_law_whole" (defArgs s__law_whole) (defBody s__law_whole) (defScope s__law_whole) .none kV5 dc5 pm5 an5 cd5 ct5), sl5⟩) (c5 : PySem.W.codeIn K cd5 "_law_whole" = true) (k5 : PySem.W.keepIn K (.ref f5) = true)
    {f6 : Addr} {od6 an6 : Option Addr} {sl6 : Array (Option Value)} {oc6 kV6 dc6 pm6 cd6 ct6 : Value}
    (a6 : PySem.W.nsIn K mainGlobals "_law_same" = some (some (.ref f6))) (l6 : K.lookup f6 = some ⟨oc6, od6, .func (PySem.W.fnOf "_law_same" "_law_same" (defArgs s__law_same) (defBody s__law_same) (defScope s__law_same) .none kV6 dc6 pm6 an6 cd6 ct6), sl6⟩) (c6 : PySem.W.codeIn K cd6 "_law_same" = true) (k6 : PySem.W.keepIn K (.ref f6) = true)
    {f7 : Addr} {od7 an7 : Option Addr} {sl7 : Array (Option Value)} {oc7 kV7 dc7 pm7 cd7 ct7 : Value}
    (a7 : PySem.W.nsIn K mainGlobals "_law_prime" = some (some (.ref f7))) (l7 : K.lookup f7 = some ⟨oc7, od7, .func (PySem.W.fnOf "_law_prime" "_law_prime" (defArgs s__law_prime) (defBody s__law_prime) (defScope s__law_prime) .none kV7 dc7 pm7 an7 cd7 ct7), sl7⟩) (c7 : PySem.W.codeIn K cd7 "_law_prime" = true) (k7 : PySem.W.keepIn K (.ref f7) = true)
    {f8 : Addr} {od8 an8 : Option Addr} {sl8 : Array (Option Value)} {oc8 kV8 dc8 pm8 cd8 ct8 : Value}
    (a8 : PySem.W.nsIn K mainGlobals "_law_row" = some (some (.ref f8))) (l8 : K.lookup f8 = some ⟨oc8, od8, .func (PySem.W.fnOf "_law_row" "_law_row" (defArgs s__law_row) (defBody s__law_row) (defScope s__law_row) .none kV8 dc8 pm8 an8 cd8 ct8), sl8⟩) (c8 : PySem.W.codeIn K cd8 "_law_row" = true) (k8 : PySem.W.keepIn K (.ref f8) = true)
    {f9 : Addr} {od9 an9 : Option Addr} {sl9 : Array (Option Value)} {oc9 kV9 dc9 pm9 cd9 ct9 : Value}
    (a9 : PySem.W.nsIn K mainGlobals "_law_odd" = some (some (.ref f9))) (l9 : K.lookup f9 = some ⟨oc9, od9, .func (PySem.W.fnOf "_law_odd" "_law_odd" (defArgs s__law_odd) (defBody s__law_odd) (defScope s__law_odd) .none kV9 dc9 pm9 an9 cd9 ct9), sl9⟩) (c9 : PySem.W.codeIn K cd9 "_law_odd" = true) (k9 : PySem.W.keepIn K (.ref f9) = true)
    {f10 : Addr} {od10 an10 : Option Addr} {sl10 : Array (Option Value)} {oc10 kV10 dc10 pm10 cd10 ct10 : Value}
    (a10 : PySem.W.nsIn K mainGlobals "_law_bent" = some (some (.ref f10))) (l10 : K.lookup f10 = some ⟨oc10, od10, .func (PySem.W.fnOf "_law_bent" "_law_bent" (defArgs s__law_bent) (defBody s__law_bent) (defScope s__law_bent) .none kV10 dc10 pm10 an10 cd10 ct10), sl10⟩) (c10 : PySem.W.codeIn K cd10 "_law_bent" = true) (k10 : PySem.W.keepIn K (.ref f10) = true)
    {f11 : Addr} {od11 an11 : Option Addr} {sl11 : Array (Option Value)} {oc11 kV11 dc11 pm11 cd11 ct11 : Value}
    (a11 : PySem.W.nsIn K mainGlobals "_law_due" = some (some (.ref f11))) (l11 : K.lookup f11 = some ⟨oc11, od11, .func (PySem.W.fnOf "_law_due" "_law_due" (defArgs s__law_due) (defBody s__law_due) (defScope s__law_due) .none kV11 dc11 pm11 an11 cd11 ct11), sl11⟩) (c11 : PySem.W.codeIn K cd11 "_law_due" = true) (k11 : PySem.W.keepIn K (.ref f11) = true)
    {f12 : Addr} {od12 an12 : Option Addr} {sl12 : Array (Option Value)} {oc12 kV12 dc12 pm12 cd12 ct12 : Value}
    (a12 : PySem.W.nsIn K mainGlobals "_law_right" = some (some (.ref f12))) (l12 : K.lookup f12 = some ⟨oc12, od12, .func (PySem.W.fnOf "_law_right" "_law_right" (defArgs s__law_right) (defBody s__law_right) (defScope s__law_right) .none kV12 dc12 pm12 an12 cd12 ct12), sl12⟩) (c12 : PySem.W.codeIn K cd12 "_law_right" = true) (k12 : PySem.W.keepIn K (.ref f12) = true)
    {f13 : Addr} {od13 an13 : Option Addr} {sl13 : Array (Option Value)} {oc13 kV13 dc13 pm13 cd13 ct13 : Value}
    (a13 : PySem.W.nsIn K mainGlobals "law" = some (some (.ref f13))) (l13 : K.lookup f13 = some ⟨oc13, od13, .func (PySem.W.fnOf "law" "law" (defArgs s_law) (defBody s_law) (defScope s_law) .none kV13 dc13 pm13 an13 cd13 ct13), sl13⟩) (c13 : PySem.W.codeIn K cd13 "law" = true) (k13 : PySem.W.keepIn K (.ref f13) = true)
    (z_abs : PySem.W.nsIn K mainGlobals "abs" = some none)
    (z_all : PySem.W.nsIn K mainGlobals "all" = some none)
    (z_bool : PySem.W.nsIn K mainGlobals "bool" = some none)
    (z_int : PySem.W.nsIn K mainGlobals "int" = some none)
    (z_isinstance : PySem.W.nsIn K mainGlobals "isinstance" = some none)
    (z_len : PySem.W.nsIn K mainGlobals "len" = some none)
    (z_list : PySem.W.nsIn K mainGlobals "list" = some none)
    (z_max : PySem.W.nsIn K mainGlobals "max" = some none)
    (z_range : PySem.W.nsIn K mainGlobals "range" = some none)
    (z_repr : PySem.W.nsIn K mainGlobals "repr" = some none)
    (z_str : PySem.W.nsIn K mainGlobals "str" = some none)
    (z_tuple : PySem.W.nsIn K mainGlobals "tuple" = some none)
    (z_zip : PySem.W.nsIn K mainGlobals "zip" = some none)
    : ∃ fd : FuncData, (∀ (s : Shared) (v : Value), BindsTo s fd ⟨[v], []⟩ [("_law_script", v)]) ∧ ∀ base : Heap, K.In base → base.Ns mainGlobals mg → FnG l.prog w K mg base CX0 5 fa fd ["_law_script"] (sp_law K) := by
  have e := hfa.symm.trans (PySem.W.mg_of X G a13)
  cases e
  have T : Top K mg := {
    b_abs := PySem.W.mg_none_of X G z_abs,
    b_all := PySem.W.mg_none_of X G z_all,
    b_bool := PySem.W.mg_none_of X G z_bool,
    b_int := PySem.W.mg_none_of X G z_int,
    b_isinstance := PySem.W.mg_none_of X G z_isinstance,
    b_len := PySem.W.mg_none_of X G z_len,
    b_list := PySem.W.mg_none_of X G z_list,
    b_max := PySem.W.mg_none_of X G z_max,
    b_range := PySem.W.mg_none_of X G z_range,
    b_repr := PySem.W.mg_none_of X G z_repr,
    b_str := PySem.W.mg_none_of X G z_str,
    b_tuple := PySem.W.mg_none_of X G z_tuple,
    b_zip := PySem.W.mg_none_of X G z_zip,
    d_is_number := df_of X G a0 l0 c0 k0 (fun _ _ _ _ _ _ us hl => match us, hl with | [_], _ => rfl),
    d_is_rest := df_of X G a1 l1 c1 k1 (fun _ _ _ _ _ _ us hl => match us, hl with | [_, _], _ => rfl),
    d_is_row := df_of X G a2 l2 c2 k2 (fun _ _ _ _ _ _ us hl => match us, hl with | [_, _, _], _ => rfl),
    d__law_deck := df_of X G a3 l3 c3 k3 (fun _ _ _ _ _ _ us hl => match us, hl with | [_], _ => rfl),
    d__law_draw := df_of X G a4 l4 c4 k4 (fun _ _ _ _ _ _ us hl => match us, hl with | [_, _], _ => rfl),
    d__law_whole := df_of X G a5 l5 c5 k5 (fun _ _ _ _ _ _ us hl => match us, hl with | [_], _ => rfl),
    d__law_same := df_of X G a6 l6 c6 k6 (fun _ _ _ _ _ _ us hl => match us, hl with | [_, _], _ => rfl),
    d__law_prime := df_of X G a7 l7 c7 k7 (fun _ _ _ _ _ _ us hl => match us, hl with | [_], _ => rfl),
    d__law_row := df_of X G a8 l8 c8 k8 (fun _ _ _ _ _ _ us hl => match us, hl with | [_, _, _], _ => rfl),
    d__law_odd := df_of X G a9 l9 c9 k9 (fun _ _ _ _ _ _ us hl => match us, hl with | [_, _], _ => rfl),
    d__law_bent := df_of X G a10 l10 c10 k10 (fun _ _ _ _ _ _ us hl => match us, hl with | [_, _, _, _], _ => rfl),
    d__law_due := df_of X G a11 l11 c11 k11 (fun _ _ _ _ _ _ us hl => match us, hl with | [_, _, _], _ => rfl),
    d__law_right := df_of X G a12 l12 c12 k12 (fun _ _ _ _ _ _ us hl => match us, hl with | [_, _, _], _ => rfl) }
  have F := fun_mk (st := s_law) l13 c13 k13
  exact ⟨PySem.W.fnOf "law" "law" (defArgs s_law) (defBody s_law) (defScope s_law) .none kV13 dc13 pm13 an13 cd13 ct13, fun s v => .of_eq rfl, fun base _ _ => ok_law T F⟩
end OC

open PySem PySem.W PyProof.Rows
set_option Elab.async false
set_option maxRecDepth 100000 in
set_option maxHeartbeats 0 in
theorem PySem.Challenge.cw_opencalls_k02_rows_judged_holds : PySem.Challenge.rw_opencalls_k02_rows_judged.Holds := by
  w_on; o_law; k_head; (case hw => w_witness2)
  k_fill
  refine OC.walk_ofG (l := PySem.Challenge.rw_opencalls_k02_rows_judged) (n := 63) (k := 5) (x := "_law_script") (CX := fun _ => L2.CX0) (sp := fun w => OC.sp_law _) rfl (by decide) rfl ⟨rfl, by decide, by decide⟩ (fun w h Y => PySem.W.kIn_of Y) ?F (fun _ _ a ns hl _ hS => ⟨a, ns, rfl, hS, hl, fun _ => rfl⟩) (fun _ _ _ _ _ h => h)
  case F =>
    intro w mg fa h KX G hmg
    refine' OC.all_mk KX G hmg ?a0 ?l0 ?c0 ?k0 ?a1 ?l1 ?c1 ?k1 ?a2 ?l2 ?c2 ?k2 ?a3 ?l3 ?c3 ?k3 ?a4 ?l4 ?c4 ?k4 ?a5 ?l5 ?c5 ?k5 ?a6 ?l6 ?c6 ?k6 ?a7 ?l7 ?c7 ?k7 ?a8 ?l8 ?c8 ?k8 ?a9 ?l9 ?c9 ?k9 ?a10 ?l10 ?c10 ?k10 ?a11 ?l11 ?c11 ?k11 ?a12 ?l12 ?c12 ?k12 ?a13 ?l13 ?c13 ?k13 ?z_abs ?z_all ?z_bool ?z_int ?z_isinstance ?z_len ?z_list ?z_max ?z_range ?z_repr ?z_str ?z_tuple ?z_zip
    (case a0 => k_is); (case l0 => k_is); (case c0 => k_is); (case k0 => k_is); (case a1 => k_is); (case l1 => k_is); (case c1 => k_is); (case k1 => k_is); (case a2 => k_is); (case l2 => k_is); (case c2 => k_is); (case k2 => k_is); (case a3 => k_is); (case l3 => k_is); (case c3 => k_is); (case k3 => k_is); (case a4 => k_is); (case l4 => k_is); (case c4 => k_is); (case k4 => k_is); (case a5 => k_is); (case l5 => k_is); (case c5 => k_is); (case k5 => k_is); (case a6 => k_is); (case l6 => k_is); (case c6 => k_is); (case k6 => k_is); (case a7 => k_is); (case l7 => k_is); (case c7 => k_is); (case k7 => k_is); (case a8 => k_is); (case l8 => k_is); (case c8 => k_is); (case k8 => k_is); (case a9 => k_is); (case l9 => k_is); (case c9 => k_is); (case k9 => k_is); (case a10 => k_is); (case l10 => k_is); (case c10 => k_is); (case k10 => k_is); (case a11 => k_is); (case l11 => k_is); (case c11 => k_is); (case k11 => k_is); (case a12 => k_is); (case l12 => k_is); (case c12 => k_is); (case k12 => k_is); (case a13 => k_is); (case l13 => k_is); (case c13 => k_is); (case k13 => k_is); (case z_abs => k_is); (case z_all => k_is); (case z_bool => k_is); (case z_int => k_is); (case z_isinstance => k_is); (case z_len => k_is); (case z_list => k_is); (case z_max => k_is); (case z_range => k_is); (case z_repr => k_is); (case z_str => k_is); (case z_tuple => k_is); (case z_zip => k_is)
