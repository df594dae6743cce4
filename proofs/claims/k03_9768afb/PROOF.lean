import PyProof.Rows.All
import Wide.All
import OpenK.AllK
import Wide.FinOn
import HandS.Base
import HandS.Call
import HandS.List
import HandS.Comp
import HandS.Ends
import HandS.Dict
import HandS.Iter
import HandS.Text
import HandS.Words
import HandS.WordsList
import HandS.WordsDict
import HandS.IsInst
import HandS.Zip
import HandS.Conv
import HandS.Walk
import HandS.Style
import HandS.TupAny
import HandS.TupMul
import PySem.Challenge.RW_opencalls_k03_rows_reckoned
set_option Elab.async false
set_option linter.all false
set_option maxRecDepth 100000
namespace OC
open PySem PySem.Spec PyProof.Rows L2

/-! ### defs and their promises, by name -/
structure Df (K : PySem.W.Frag) (mg : Str → Option Value) (x : Str) (st : Stmt) (ps : List Str) : Prop where
  ex : ∃ (f : Addr) (fd : FuncData), Fun K x x st f fd ∧ Binds K fd ps [] ∧ mg x = some (.ref f)
structure Ok (P : Program) (w : World) (K : PySem.W.Frag) (mg : Str → Option Value) (base : Heap) (k : Nat) (x : Str) (ps : List Str) (sp : Sp) : Prop where
  ex : ∃ (f : Addr) (fd : FuncData), FnOk P w K mg base CX0 k f fd ps sp ∧ mg x = some (.ref f) ∧ PySem.W.keepIn K (.ref f) = true ∧ Binds K fd ps []
section
variable {P : Program} {w : World} {K : PySem.W.Frag} {mg : Str → Option Value} {base : Heap}
theorem Df.ok {x : Str} {st : Stmt} {N ps : List Str} {k : Nat} {sp : Sp} (D : Df K mg x st ps) (S : FnScope N ps (defScope st)) (len : ∀ vs H Q E, sp vs H Q E → vs.length = ps.length)
    (hbody : ∀ (f : Addr) (cdv : Value) (A : Around) (outer : List Env) (s : Shared) (H : Hp) (vs : List V) (Q : VK) (E : XK), Room k (A.deeper (envOfC x (defScope st) s.heap.objs.size f cdv)) → sp vs H Q E →
      ∃ t, PSs (cxOf CX0 P w K mg base N x (defScope st) f cdv A outer s H E).nox (defBody st) t ∧ t { nx := fun _ H' => Q .non H', rt := Q } (start N vs) H) : Ok P w K mg base (k + 1) x ps sp := by
  obtain ⟨f, fd, F, b, g⟩ := D.ex
  exact ⟨f, fd, F.ok S len (hbody f), g, F.kp, b⟩
theorem Ok.mono {x : Str} {ps : List Str} {j k : Nat} {sp : Sp} (O : Ok P w K mg base j x ps sp) (h : j ≤ k) : Ok P w K mg base k x ps sp := by
  obtain ⟨f, fd, F, r⟩ := O.ex
  exact ⟨f, fd, F.mono h, r⟩
theorem Ok.imp {x : Str} {ps : List Str} {k : Nat} {sp sp' : Sp} (O : Ok P w K mg base k x ps sp) (h : ∀ vs H Q E, sp' vs H Q E → sp vs H Q E) : Ok P w K mg base k x ps sp' := by
  obtain ⟨f, fd, F, r⟩ := O.ex
  exact ⟨f, fd, F.imp h, r⟩
end
section
variable {X : Cx} {x : Str} {ps : List Str} {k : Nat} {sp : Sp}
theorem pe_callO {e : Expr} {es : List Expr} {t : TA} {p pos : Pos} (O : Ok X.prog X.w X.K X.mg X.base k x ps sp) (hr : Room k X.A) (hg : Gl X x) (ha : PA X (e :: es) t) (hdb : (x == ("__debug__" : Str)) = false := by decide)
    (he : starEach (e :: es) X.env = (false, eval e X.env) :: starEach es X.env := by rfl) (hpl : (backTo pos (starEach es X.env)).any (·.1) = false := by rfl) :
    PE X (.Call (.Name x p) (e :: es) [] pos) (tCall sp [] E0 t) := by
  obtain ⟨f, fd, F, g, kp, b⟩ := O.ex
  exact pe_call F hr hg g kp b .nil pass0 ha hdb he hpl
theorem pe_callO0 {p pos : Pos} (O : Ok X.prog X.w X.K X.mg X.base k x ps sp) (hr : Room k X.A) (hg : Gl X x) (hdb : (x == ("__debug__" : Str)) = false := by decide) :
    PE X (.Call (.Name x p) [] [] pos) (tCall sp [] E0 tNil) := by
  obtain ⟨f, fd, F, g, kp, b⟩ := O.ex
  exact pe_call0 F hr hg g kp b .nil pass0 hdb
end
/-! ### from the head's facts -/
theorem df_of {K : PySem.W.Frag} {h : Heap} {mg : Str → Option Value} {x : Str} {st : Stmt} {ps : List Str} {f : Addr} {oc : Value} {od an : Option Addr} {osl : Array (Option Value)} {kV doc pm cdv ct : Value} (X : K.In h) (G : h.Ns mainGlobals mg)
    (a : PySem.W.nsIn K mainGlobals x = some (some (.ref f)))
    (l : K.lookup f = some ⟨oc, od, .func (PySem.W.fnOf x x (defArgs st) (defBody st) (defScope st) .none kV doc pm an cdv ct), osl⟩)
    (c : PySem.W.codeIn K cdv x = true) (k : PySem.W.keepIn K (.ref f) = true)
    (hb : ∀ (kV doc pm : Value) (an : Option Addr) (cdv ct : Value) (us : List Value), us.length = ps.length → bindArgs (PySem.W.fnOf x x (defArgs st) (defBody st) (defScope st) .none kV doc pm an cdv ct) ⟨us, []⟩ = pure (ps.zip us)) :
    Df K mg x st ps := by
  have F := fun_mk (st := st) l c k
  exact ⟨f, _, F, F.binds hb, PySem.W.mg_of X G a⟩
end OC

set_option Elab.async false
set_option linter.all false
set_option maxRecDepth 100000
namespace OC
open PySem PySem.Spec PyProof.Rows L2

/-! ### kinds of values -/
inductive Kd where
  | non | bl | int | str | lst | tup | dct
  deriving DecidableEq
def Kd.name : Kd → String
  | .non => "NoneType" | .bl => "bool" | .int => "int" | .str => "str" | .lst => "list" | .tup => "tuple" | .dct => "dict"
def KdOf (K : PySem.W.Frag) (H : Hp) (v : V) (k : Kd) : Prop := TyX K H v (.type k.name)
section
variable {K : PySem.W.Frag} {H : Hp}
theorem kd_int (i : Int) : KdOf K H (.int i) .int := .base (.int i)
theorem kd_bl (b : Bool) : KdOf K H (.bl b) .bl := .base (.bl b)
theorem kd_non : KdOf K H .non .non := .base .non
theorem kd_str (x : Str) : KdOf K H (.str x) .str := .base (.str x)
theorem kd_tup {a : Addr} {xs : List V} (h : SqT K H a xs) : KdOf K H (.ref a) .tup := by
  rcases h with (h | ⟨o, h⟩) | ⟨o, its, n, h, c, _⟩
  · exact .base (.tup h)
  · exact .fTuple h
  · exact .kTuple h c
theorem kd_lst {a : Addr} {xs : List V} (h : SqL K H a xs) : KdOf K H (.ref a) .lst := by
  rcases h with (h | ⟨o, h⟩) | ⟨o, its, n, h, c, _⟩
  · exact .base (.lst h)
  · exact .base (.frz h)
  · exact .kList h c
theorem kd_dct {a : Addr} {kvs : List (Key × V)} (h : H a = some (.dK kvs)) : KdOf K H (.ref a) .dct := .base (.dK h)
theorem kit_int (k : Kd) : PySem.W.kitOne K (.type k.name) (.type "int") = some (decide (k = .int) || decide (k = .bl)) := by
  cases k <;> exact kit_ty (by decide +kernel)
theorem kit_bool (k : Kd) : PySem.W.kitOne K (.type k.name) (.type "bool") = some (decide (k = .bl)) := by
  cases k <;> exact kit_ty (by decide +kernel)
theorem kit_tuple (k : Kd) : PySem.W.kitOne K (.type k.name) (.type "tuple") = some (decide (k = .tup)) := by
  cases k <;> exact kit_ty (by decide +kernel)
theorem kit_str (k : Kd) : PySem.W.kitOne K (.type k.name) (.type "str") = some (decide (k = .str)) := by
  cases k <;> exact kit_ty (by decide +kernel)
theorem kd_is_int {v : V} {k : Kd} (h : KdOf K H v k) (e : k = .int) : ∃ i, v = .int i := by
  subst e
  generalize hx : (Value.type (Kd.name .int)) = t at h
  unfold KdOf at h
  rw [hx] at h
  cases h with
  | base h => cases h with
    | int i => exact ⟨i, rfl⟩
    | ins => cases hx
    | _ => exact absurd (Value.type.inj hx) (by decide)
  | _ => exact absurd (Value.type.inj hx) (by decide)
end

/-! ### heaps -/
theorem same_upd {H : Hp} {p : Addr} {o : HO} (h : H p = none) : Same H (upd H p o) := fun b x e => by
  rw [upd_ne (ne_of_none e h)]
  exact e
theorem same_mut {H H' : Hp} {p : Addr} {o : HO} (e : Same H H') (h : H p = none) : Same H (upd H' p o) := fun b x q => by
  rw [upd_ne (ne_of_none q h)]
  exact e b x q
theorem Same.tup {K : PySem.W.Frag} {H H' : Hp} {a : Addr} {xs : List V} (e : Same H H') (h : SqT K H a xs) : SqT K H' a xs := by
  rcases h with (h | ⟨o, h⟩) | h
  · exact .inl (.inl (e _ _ h))
  · exact .inl (.inr ⟨o, e _ _ h⟩)
  · exact .inr h
/-- all but the deck's two lists stays -/
def Kept (d c : Addr) (H H' : Hp) : Prop := ∀ b o, H b = some o → b ≠ d → b ≠ c → H' b = some o
theorem Kept.refl (d c : Addr) (H : Hp) : Kept d c H H := fun _ _ h _ _ => h
theorem Kept.trans {d c : Addr} {H H1 H2 : Hp} (a : Kept d c H H1) (b : Kept d c H1 H2) : Kept d c H H2 := fun x o h n m => b x o (a x o h n m) n m
theorem Kept.of {d c : Addr} {H H' : Hp} (a : Same H H') : Kept d c H H' := fun x o h _ _ => a x o h
/-- the deck: a list of the cells' list and the count of draws -/
structure Deck (H : Hp) (d c : Addr) (t : Int) : Prop where
  hd : H d = some (.lst [.ref c, .int t])
  hc : ∃ cells : List Int, H c = some (.lst (cells.map V.int)) ∧ (∀ x ∈ cells, 0 ≤ x) ∧ cells.length ≤ 63
  ne : c ≠ d
  t0 : 0 ≤ t
theorem Deck.same {H H' : Hp} {d c : Addr} {t : Int} (D : Deck H d c t) (s : Same H H') : Deck H' d c t := by
  obtain ⟨hd, ⟨cells, h1, h2⟩, n, t0⟩ := D
  exact ⟨s _ _ hd, ⟨cells, s _ _ h1, h2⟩, n, t0⟩
theorem Kept.tup {K : PySem.W.Frag} {d c : Addr} {t : Int} {H H' : Hp} {a : Addr} {xs : List V} (D : Deck H d c t) (e : Kept d c H H') (h : SqT K H a xs) : SqT K H' a xs := by
  obtain ⟨hd, ⟨cells, h1, h2⟩, n, t0⟩ := D
  rcases h with (h | ⟨o, h⟩) | h
  · exact .inl (.inl (e _ _ h (fun z => by subst z; rw [hd] at h; cases h) (fun z => by subst z; rw [h1] at h; cases h)))
  · exact .inl (.inr ⟨o, e _ _ h (fun z => by subst z; rw [hd] at h; cases h) (fun z => by subst z; rw [h1] at h; cases h)⟩)
  · exact .inr h
theorem at_int {xs : List Int} {z : Int} (h0 : 0 ≤ z) (h1 : z < (xs.length : Int)) : ∃ x, x ∈ xs ∧ xs[z.toNat]? = some x ∧ atI (xs.map V.int) z = some (.int x) := by
  have hl : z.toNat < xs.length := by omega
  refine ⟨xs[z.toNat], List.getElem_mem hl, List.getElem?_eq_getElem hl, ?_⟩
  refine at_of (j := z.toNat) (by omega) ?_
  rw [List.getElem?_map, List.getElem?_eq_getElem hl]
  rfl
theorem ix_nat {n : Nat} {z : Int} (h0 : 0 ≤ z) (h1 : z < (n : Int)) : ixN n z = some z.toNat := by
  unfold ixN
  rw [if_pos h0, if_pos h1]
theorem in_ints (i : Int) (xs : List Int) : inV (.int i) (xs.map V.int) = decide (i ∈ xs) := by
  unfold inV
  induction xs with
  | nil => simp
  | cons x r ih =>
    rw [List.map_cons, List.any_cons, ih]
    by_cases e : x = i
    · subst e; simp [eqV]
    · have : ¬ i = x := fun q => e q.symm
      simp [eqV, e, this]
end OC

set_option Elab.async false
set_option linter.all false
set_option maxRecDepth 100000
namespace OC
open PySem PySem.Spec PyProof.Rows L2

/-! ### readings by name -/
def rLenQ (K : PySem.W.Frag) : List V → Hp → VK → Prop := fun xs H Q => ∃ p ys, xs = [.ref p] ∧ (SqL K H p ys ∨ SqT K H p ys) ∧ Q (.int ys.length) H
def rListQ (K : PySem.W.Frag) : List V → Hp → VK → Prop := fun xs H Q => ∃ p ys, xs = [.ref p] ∧ (SqL K H p ys ∨ SqT K H p ys) ∧ ∀ l, H l = none → Q (.ref l) (upd H l (.lst ys))
def rTupQ (K : PySem.W.Frag) : List V → Hp → VK → Prop := fun xs H Q => ∃ p ys, xs = [.ref p] ∧ ((SqL K H p ys ∧ ∀ l, H l = none → Q (.ref l) (upd H l (.tup ys))) ∨ (SqT K H p ys ∧ Q (.ref p) H))
/-! ### data kept -/
mutual
theorem dp_same {K : PySem.W.Frag} {H H' : Hp} (e : Same H H') : ∀ (d : PyData) (v : V), Dp K H v d → Dp K H' v d
  | .none, _, h => by cases h; exact .non
  | .bool b, _, h => by cases h; exact .bl b
  | .int i, _, h => by cases h; exact .int i
  | .str x, _, h => by cases h; exact .str x
  | .list ds, _, h => by
    cases h with
    | lst hs ha => exact .lst (e.seq hs) (dpAll_same e ds _ ha)
  | .tuple ds, _, h => by
    cases h with
    | tup hs ha => exact .tup (Same.tup e hs) (dpAll_same e ds _ ha)
  | .dict _, _, h => by cases h
theorem dpAll_same {K : PySem.W.Frag} {H H' : Hp} (e : Same H H') : ∀ (ds : List PyData) (vs : List V), DpAll K H vs ds → DpAll K H' vs ds
  | [], _, h => by cases h; exact .nil
  | d :: ds, _, h => by
    cases h with
    | cons h1 h2 => exact .cons (dp_same e d _ h1) (dpAll_same e ds _ h2)
end
theorem dpAll_len {K : PySem.W.Frag} {H : Hp} : ∀ {vs : List V} {ds : List PyData}, DpAll K H vs ds → vs.length = ds.length
  | _, _, .nil => rfl
  | _, _, .cons _ t => by rw [List.length_cons, List.length_cons, dpAll_len t]
theorem dpAll_get {K : PySem.W.Frag} {H : Hp} : ∀ {vs : List V} {ds : List PyData} {i : Nat} {v : V}, DpAll K H vs ds → vs[i]? = some v → ∃ d, ds[i]? = some d ∧ d ∈ ds ∧ Dp K H v d
  | _, _, i, v, .nil, e => by simp at e
  | _, _, 0, v, .cons h t, e => by
    have e : _ = v := Option.some.inj e
    subst e
    exact ⟨_, rfl, List.mem_cons_self, h⟩
  | _, _, i + 1, v, .cons h t, e => by
    obtain ⟨d, h1, h2, h3⟩ := dpAll_get (i := i) (v := v) t e
    exact ⟨d, h1, List.mem_cons_of_mem _ h2, h3⟩
theorem dpAll_ints {K : PySem.W.Frag} {H : Hp} : ∀ ns : List Int, DpAll K H (ns.map V.int) (ns.map PyData.int)
  | [] => .nil
  | n :: r => .cons (.int n) (dpAll_ints r)
theorem dpAll_nth {K : PySem.W.Frag} {H : Hp} : ∀ {vs : List V} {ds : List PyData}, vs.length = ds.length → (∀ (i : Nat) (v : V) (d : PyData), vs[i]? = some v → ds[i]? = some d → Dp K H v d) → DpAll K H vs ds
  | [], [], _, _ => .nil
  | [], _ :: _, e, _ => by cases e
  | _ :: _, [], e, _ => by cases e
  | v :: vs, d :: ds, e, h => .cons (h 0 v d rfl rfl) (dpAll_nth (Nat.succ.inj e) fun i v d h1 h2 => h (i + 1) v d h1 h2)

/-! ### any thing, with dicts: its kind -/
mutual
inductive Rep (K : PySem.W.Frag) (H : Hp) (bad : Addr → Prop) : V → PyData → Prop
  | non : Rep K H bad .non .none
  | bl (b : Bool) : Rep K H bad (.bl b) (.bool b)
  | int (i : Int) : Rep K H bad (.int i) (.int i)
  | str (x : Str) : Rep K H bad (.str x) (.str x)
  | lst {a : Addr} {xs : List V} {ds : List PyData} : H a = some (.lst xs) → ¬ bad a → RepAll K H bad xs ds → Rep K H bad (.ref a) (.list ds)
  | tup {a : Addr} {xs : List V} {ds : List PyData} : H a = some (.tup xs) → RepAll K H bad xs ds → Rep K H bad (.ref a) (.tuple ds)
  | dct {a : Addr} {kvs : List (Key × V)} : H a = some (.dK kvs) → Rep K H bad (.ref a) (.dict [])
inductive RepAll (K : PySem.W.Frag) (H : Hp) (bad : Addr → Prop) : List V → List PyData → Prop
  | nil : RepAll K H bad [] []
  | cons {v : V} {vs : List V} {d : PyData} {ds : List PyData} : Rep K H bad v d → RepAll K H bad vs ds → RepAll K H bad (v :: vs) (d :: ds)
end
def kdOf : PyData → Kd
  | .none => .non | .bool _ => .bl | .int _ => .int | .str _ => .str | .list _ => .lst | .tuple _ => .tup | .dict _ => .dct
section
variable {K : PySem.W.Frag} {H : Hp} {bad : Addr → Prop}
theorem Rep.kd : ∀ {v : V} {d : PyData}, Rep K H bad v d → KdOf K H v (kdOf d)
  | _, _, .non => kd_non
  | _, _, .bl b => kd_bl b
  | _, _, .int i => kd_int i
  | _, _, .str x => kd_str x
  | _, _, .lst h _ _ => kd_lst (.inl (.inl h))
  | _, _, .tup h _ => kd_tup (.inl (.inl h))
  | _, _, .dct h => kd_dct h
theorem repAll_len : ∀ {vs : List V} {ds : List PyData}, RepAll K H bad vs ds → vs.length = ds.length
  | _, _, .nil => rfl
  | _, _, .cons _ t => by rw [List.length_cons, List.length_cons, repAll_len t]
theorem repAll_get : ∀ {vs : List V} {ds : List PyData} {i : Nat} {v : V}, RepAll K H bad vs ds → vs[i]? = some v → ∃ d, ds[i]? = some d ∧ d ∈ ds ∧ Rep K H bad v d
  | _, _, i, v, .nil, e => by simp at e
  | _, _, 0, v, .cons h t, e => by
    have e : _ = v := Option.some.inj e
    subst e
    exact ⟨_, rfl, List.mem_cons_self, h⟩
  | _, _, i + 1, v, .cons h t, e => by
    obtain ⟨d, h1, h2, h3⟩ := repAll_get (i := i) (v := v) t e
    exact ⟨d, h1, List.mem_cons_of_mem _ h2, h3⟩
theorem repAll_append : ∀ {xs ys : List V} {ds es : List PyData}, RepAll K H bad xs ds → RepAll K H bad ys es → RepAll K H bad (xs ++ ys) (ds ++ es)
  | _, _, _, _, .nil, h => h
  | _, _, _, _, .cons h t, g => .cons h (repAll_append t g)
theorem repAll_ints : ∀ ns : List Int, RepAll K H bad (ns.map V.int) (ns.map PyData.int)
  | [] => .nil
  | n :: r => .cons (.int n) (repAll_ints r)
end
/-- what stays of things: tuples and dicts all, lists but the bad ones -/
structure Stays (bad : Addr → Prop) (H H' : Hp) : Prop where
  t : ∀ a xs, H a = some (.tup xs) → H' a = some (.tup xs)
  d : ∀ a kvs, H a = some (.dK kvs) → H' a = some (.dK kvs)
  l : ∀ a xs, H a = some (.lst xs) → ¬ bad a → H' a = some (.lst xs)
theorem Stays.of {bad : Addr → Prop} {H H' : Hp} (s : Same H H') : Stays bad H H' := ⟨fun _ _ h => s _ _ h, fun _ _ h => s _ _ h, fun _ _ h _ => s _ _ h⟩
theorem Stays.trans {bad : Addr → Prop} {H H1 H2 : Hp} (a : Stays bad H H1) (b : Stays bad H1 H2) : Stays bad H H2 := ⟨fun x y h => b.t x y (a.t x y h), fun x y h => b.d x y (a.d x y h), fun x y h n => b.l x y (a.l x y h n) n⟩
theorem Stays.kept {d c : Addr} {t : Int} {H H' : Hp} (D : Deck H d c t) (k : Kept d c H H') : Stays (fun a => a = d ∨ a = c) H H' := by
  obtain ⟨hd, ⟨cells, h1, h2⟩, n, t0⟩ := D
  refine ⟨fun a xs h => k a _ h (fun z => ?_) (fun z => ?_), fun a xs h => k a _ h (fun z => ?_) (fun z => ?_), fun a xs h nb => k a _ h (fun z => nb (.inl z)) (fun z => nb (.inr z))⟩
  · subst z; rw [hd] at h; cases h
  · subst z; rw [h1] at h; cases h
  · subst z; rw [hd] at h; cases h
  · subst z; rw [h1] at h; cases h
mutual
theorem rep_stays {K : PySem.W.Frag} {bad : Addr → Prop} {H H' : Hp} (e : Stays bad H H') : ∀ (d : PyData) (v : V), Rep K H bad v d → Rep K H' bad v d
  | .none, _, h => by cases h; exact .non
  | .bool b, _, h => by cases h; exact .bl b
  | .int i, _, h => by cases h; exact .int i
  | .str x, _, h => by cases h; exact .str x
  | .list ds, _, h => by
    cases h with
    | lst hs hb ha => exact .lst (e.l _ _ hs hb) hb (repAll_stays e ds _ ha)
  | .tuple ds, _, h => by
    cases h with
    | tup hs ha => exact .tup (e.t _ _ hs) (repAll_stays e ds _ ha)
  | .dict _, _, h => by
    cases h with
    | dct hs => exact .dct (e.d _ _ hs)
theorem repAll_stays {K : PySem.W.Frag} {bad : Addr → Prop} {H H' : Hp} (e : Stays bad H H') : ∀ (ds : List PyData) (vs : List V), RepAll K H bad vs ds → RepAll K H' bad vs ds
  | [], _, h => by cases h; exact .nil
  | d :: ds, _, h => by
    cases h with
    | cons h1 h2 => exact .cons (rep_stays e d _ h1) (repAll_stays e ds _ h2)
end

/-! ### zip of two tuples, walked -/
theorem walk_zipT {K : PySem.W.Frag} {a b : Addr} {xs ys : List V} {n : Nat} (hn : n = min xs.length ys.length) : Walk (RZ.ItzT K a b) n (fun H => SqT K H a xs ∧ SqT K H b ys) (YPair (fun i => xs[i]?) (fun i => ys[i]?)) where
  goes i H hi q := by
    have hx : i < xs.length := by rw [hn] at hi; exact Nat.lt_of_lt_of_le hi (Nat.min_le_left _ _)
    have hy : i < ys.length := by rw [hn] at hi; exact Nat.lt_of_lt_of_le hi (Nat.min_le_right _ _)
    exact ⟨xs, ys, _, _, q.1, q.2, List.getElem?_eq_getElem hx, List.getElem?_eq_getElem hy⟩
  stops H q := ⟨xs, ys, q.1, q.2, by rw [hn]; omega⟩
  yields i H v H' _ q y := by
    obtain ⟨T, x, z, ev, nT, eH, gx, gz⟩ := y
    exact ⟨T, x, z, ev, nT, eH, gx xs q.1, gz ys q.2⟩

/-! ### the same: two things of one data -/
/-- a thing that is no tuple -/
def Sc : PyData → Prop
  | .none => True | .bool _ => True | .int _ => True | .str _ => True | _ => False
def Lv (L : PyData → Prop) (d : PyData) : Prop := Sc d ∨ ∃ ds, d = .tuple ds ∧ ds.length ≤ 1000 ∧ ∀ x ∈ ds, L x
def sp_same (K : PySem.W.Frag) (L : PyData → Prop) : Sp := fun vs H Q _ => ∃ (v u : V) (d : PyData), vs = [v, u] ∧ Dp K H v d ∧ Dp K H u d ∧ L d ∧ ∀ H', Same H H' → Q (.bl true) H'
/-- no call of it is promised anything -/
theorem ok_never {P : Program} {w : World} {K : PySem.W.Frag} {mg : Str → Option Value} {base : Heap} {x : Str} {st : Stmt} {N ps : List Str} (D : Df K mg x st ps) (S : FnScope N ps (defScope st)) (L : PyData → Prop) (hL : ∀ d, ¬ L d) (hp : ps.length = 2) : Ok P w K mg base 1 x ps (sp_same K L) :=
  D.ok S (fun vs H Q E h => by obtain ⟨v, u, d, rfl, _⟩ := h; exact hp.symm) fun f cdv A outer s H vs Q E hr h => by
    obtain ⟨v, u, d, _, _, _, h, _⟩ := h
    exact (hL d h).elim
/-- the kind of data -/
theorem dp_kd {K : PySem.W.Frag} {H : Hp} : ∀ {v : V} {d : PyData}, Dp K H v d → KdOf K H v (kdOf d)
  | _, _, .non => kd_non
  | _, _, .bl b => kd_bl b
  | _, _, .int i => kd_int i
  | _, _, .str x => kd_str x
  | _, _, .lst h _ => kd_lst h
  | _, _, .tup h _ => kd_tup h
end OC

set_option Elab.async false
set_option linter.all false
set_option maxRecDepth 100000
set_option maxHeartbeats 2000000
namespace OC
open PySem PySem.Spec PyProof.Rows L2
/-! ### a tuple taken once is itself -/
theorem tuple_mul1 (l : Addr) (its : Array Value) (m : Nat) (od : Option Addr) (so : Array (Option Value)) (u : Tok) :
    Meets (Builtin.«tuple.__mul__» ⟨[.ref l, .int 1 u], []⟩) (fun _ R s => s.heap.get? l = some { cls := .type "tuple", dict := od, data := .seq its m, slots := so } ∧ R (.ok (.ret (Value.ref l))) s) := by
  refine .of_wp fun prog w A R s hh => ?_
  obtain ⟨hp, g, d, tk, os⟩ := s
  obtain ⟨hl, hR⟩ := hh
  have fi := AutoSeq1.idx_int
  have c0 : (decide ((1 : Int) < -(2 ^ 63)) || decide ((1 : Int) ≥ 2 ^ 63)) = false := by decide
  have c1 : (its.isEmpty || (1 : Int) == 1) = true := by simp
  wp_walk using wpAny_loadPart' hl
  exact ⟨_, rfl, hR⟩
/-- t * n: a new tuple, or for n = 1 the same -/
def rRepA (K : PySem.W.Frag) : R2 := fun x y H Q => ∃ l k xs, x = .ref l ∧ y = .int k ∧ SqT K H l xs ∧ xs ≠ [] ∧ 1 ≤ k ∧ k ≤ 1000 ∧ xs.length ≤ 1000 ∧ (k = 1 → Q (.ref l) H) ∧ (2 ≤ k → ∀ p, H p = none → Q (.ref p) (upd H p (.tup (List.replicate k.toNat xs).flatten)))
theorem op_repA {X : Cx} : OpR X (binaryOp .Mult) (rRepA X.K) := by
  intro pins s σ H x y v u Q I rx ry h
  obtain ⟨l, k, xs, ex, ey, hT, hne, h1, h2, hz, q1, q2⟩ := h
  by_cases hk : k = 1
  · subst hk ex ey
    have q := q1 rfl
    cases rx
    obtain ⟨t, rfl⟩ := ry
    obtain ⟨its, r, ⟨⟨cls, dd, data, sl⟩, ho, hc, n, hd⟩, hs⟩ := I.tuple hT
    simp only at hc hd
    subst hc hd
    refine wpAny_binaryOp_repeat_ref (T := "tuple") (U := "int") (by decide) ⟨_, ho, rfl⟩ (fun s' => typeIs_int s' 1 t) noFill_tuple_mul F.fills_int_mul F.slot_int_rmul repeat_tuple F.slot_int_index.lookup ?_
    refine call_meets F.slot_int_rmul (typeIs_int s 1 t) F.entry_int_rmul (F.args_int_rmul_2 _ _) (int_rmul_tuple 1 t l its.toArray n dd sl) ⟨ho, rfl, ⟨_, ho, rfl⟩, ?_⟩
    exact call_meets F.slot_tuple_mul ⟨_, ho, rfl⟩ F.entry_tuple_mul (F.args_tuple_mul_2 _ _) (tuple_mul1 l its.toArray n dd sl t) ⟨ho, .ref l, H, I, rfl, q⟩
  · exact op_repT pins s σ H x y v u Q I rx ry ⟨l, k, xs, ex, ey, hT, hne, by omega, h2, hz, q2 (by omega)⟩
/-- the same, whichever tuple it is -/
def rRepB (K : PySem.W.Frag) : R2 := fun x y H Q => ∃ l k xs, x = .ref l ∧ y = .int k ∧ SqT K H l xs ∧ xs ≠ [] ∧ 1 ≤ k ∧ k ≤ 1000 ∧ xs.length ≤ 1000 ∧ ∀ p H', Same H H' → SqT K H' p (List.replicate k.toNat xs).flatten → Q (.ref p) H'
theorem op_repB {X : Cx} : OpR X (binaryOp .Mult) (rRepB X.K) := by
  intro pins s σ H x y v u Q I rx ry h
  obtain ⟨l, k, xs, ex, ey, hT, hne, h1, h2, hz, q⟩ := h
  refine op_repA pins s σ H x y v u Q I rx ry ⟨l, k, xs, ex, ey, hT, hne, h1, h2, hz, fun hk => q l H (Same.refl H) ?_, fun _ p np => q p _ (same_upd np) (.inl (.inl upd_same))⟩
  subst hk
  rw [show ((1 : Int).toNat) = 1 from rfl, List.replicate_one, List.flatten_cons, List.flatten_nil, List.append_nil]
  exact hT
theorem rep_int (n : Nat) (x : Int) : (List.replicate n [V.int x]).flatten = (List.replicate n x).map V.int := by
  induction n with
  | zero => rfl
  | succ n ih => rw [List.replicate_succ, List.flatten_cons, ih, List.replicate_succ]; rfl
end OC

set_option Elab.async false
set_option linter.all false
set_option maxRecDepth 100000
namespace OC
open PySem PySem.Spec PyProof.Rows L2

theorem new_of {H H' : Hp} {p : Addr} {o : HO} (h : upd H p o = H') (n : H p = none) : Same H H' ∧ H' p = some o := by
  subst h
  exact ⟨same_upd n, upd_same⟩
theorem sz1000 {n : Nat} (h : n ≤ 1000) : n ≤ sizeLine := Nat.le_of_lt (small1000 h)

/-! ### tuples stay -/
def Tk (H H' : Hp) : Prop := ∀ (K : PySem.W.Frag) (a : Addr) (xs : List V), SqT K H a xs → SqT K H' a xs
theorem Tk.refl (H : Hp) : Tk H H := fun _ _ _ h => h
theorem Tk.trans {H H1 H2 : Hp} (a : Tk H H1) (b : Tk H1 H2) : Tk H H2 := fun K x xs h => b K x xs (a K x xs h)
theorem Tk.of {H H' : Hp} (s : Same H H') : Tk H H' := fun _ _ _ h => Same.tup s h
theorem Tk.kept {d c : Addr} {t : Int} {H H' : Hp} (D : Deck H d c t) (k : Kept d c H H') : Tk H H' := fun _ _ _ h => Kept.tup D k h
theorem Tk.mut {H H' : Hp} {D : Addr} {xs ys : List V} (k : Tk H H') (h : H' D = some (.lst xs)) : Tk H (upd H' D (.lst ys)) := fun K a zs q => by
  rcases k K a zs q with (q | ⟨o, q⟩) | q
  · refine .inl (.inl ?_)
    rw [upd_ne (fun z => by subst z; rw [h] at q; cases q)]
    exact q
  · refine .inl (.inr ⟨o, ?_⟩)
    rw [upd_ne (fun z => by subst z; rw [h] at q; cases q)]
    exact q
  · exact .inr q
theorem Tk.new {H H' : Hp} {D : Addr} {o : HO} (k : Tk H H') (h : H' D = none) : Tk H (upd H' D o) := k.trans (Tk.of (same_upd h))
mutual
def noL : PyData → Bool
  | .none => true | .bool _ => true | .int _ => true | .str _ => true | .list _ => false | .tuple ds => noLAll ds | .dict _ => false
def noLAll : List PyData → Bool
  | [] => true
  | d :: ds => noL d && noLAll ds
end
mutual
theorem dp_tk {K : PySem.W.Frag} {H H' : Hp} (e : Tk H H') : ∀ (d : PyData) (v : V), noL d = true → Dp K H v d → Dp K H' v d
  | .none, _, _, h => by cases h; exact .non
  | .bool b, _, _, h => by cases h; exact .bl b
  | .int i, _, _, h => by cases h; exact .int i
  | .str x, _, _, h => by cases h; exact .str x
  | .list ds, _, n, h => by simp [noL] at n
  | .tuple ds, _, n, h => by
    cases h with
    | tup hs ha => exact .tup (e K _ _ hs) (dpAll_tk e ds _ (by simpa [noL] using n) ha)
  | .dict _, _, _, h => by cases h
theorem dpAll_tk {K : PySem.W.Frag} {H H' : Hp} (e : Tk H H') : ∀ (ds : List PyData) (vs : List V), noLAll ds = true → DpAll K H vs ds → DpAll K H' vs ds
  | [], _, _, h => by cases h; exact .nil
  | d :: ds, _, n, h => by
    have n' : noL d = true ∧ noLAll ds = true := by simpa [noLAll] using n
    cases h with
    | cons h1 h2 => exact .cons (dp_tk e d _ n'.1 h1) (dpAll_tk e ds _ n'.2 h2)
end
/-! ### rows as data -/
def rowD (r : List Int) : PyData := .tuple (r.map PyData.int)
theorem noL_ints : ∀ r : List Int, noLAll (r.map PyData.int) = true
  | [] => by simp [noLAll]
  | n :: r => by simp [noLAll, noL, noL_ints r]
theorem noL_row (r : List Int) : noL (rowD r) = true := by
  unfold rowD
  rw [noL]
  exact noL_ints r
theorem noL_rows : ∀ rs : List (List Int), noLAll (rs.map rowD) = true
  | [] => by simp [noLAll]
  | r :: rs => by simp [noLAll, noL_row, noL_rows rs]
theorem lay_ints : ∀ ns : List Int, PyData.canLayAll0 (ns.map PyData.int) = true
  | [] => by simp only [List.map_nil, PyData.canLayAll0]
  | n :: r => by simp only [List.map_cons, PyData.canLayAll0, PyData.canLay0, lay_ints r, Bool.and_self]
theorem depth_ints : ∀ ns : List Int, PyData.depthAll (ns.map PyData.int) = 0
  | [] => by simp only [List.map_nil, PyData.depthAll]
  | n :: r => by simp only [List.map_cons, PyData.depthAll, PyData.depth, depth_ints r, Nat.max_self]
theorem lay_rows : ∀ rs : List (List Int), PyData.canLayAll0 (rs.map rowD) = true
  | [] => by simp only [List.map_nil, PyData.canLayAll0]
  | r :: rs => by simp only [List.map_cons, PyData.canLayAll0, rowD, PyData.canLay0, lay_ints r, lay_rows rs, Bool.and_self]
theorem depth_rows : ∀ rs : List (List Int), PyData.depthAll (rs.map rowD) ≤ 1
  | [] => by simp only [List.map_nil, PyData.depthAll]; omega
  | r :: rs => by
    have := depth_rows rs
    simp only [List.map_cons, PyData.depthAll, rowD, PyData.depth, depth_ints r]
    omega
theorem shaped_ints (ns : List Int) : SeqAt.shaped (.list (ns.map PyData.int)) = true := by
  unfold SeqAt.shaped
  simp only [PyData.canLay0, lay_ints, PyData.depth, depth_ints, Bool.true_and]
  rfl
theorem shaped_row (ns : List Int) : SeqAt.shaped (rowD ns) = true := by
  unfold SeqAt.shaped rowD
  simp only [PyData.canLay0, lay_ints, PyData.depth, depth_ints, Bool.true_and]
  rfl
theorem shaped_lrows (rs : List (List Int)) : SeqAt.shaped (.list (rs.map rowD)) = true := by
  unfold SeqAt.shaped
  have := depth_rows rs
  simp only [PyData.canLay0, lay_rows, PyData.depth, Bool.true_and]
  exact decide_eq_true (by omega)
theorem shaped_trows (rs : List (List Int)) : SeqAt.shaped (.tuple (rs.map rowD)) = true := by
  unfold SeqAt.shaped
  have := depth_rows rs
  simp only [PyData.canLay0, lay_rows, PyData.depth, Bool.true_and]
  exact decide_eq_true (by omega)
theorem eqv_nil (ds : List PyData) : PyData.eqv (.list ds) (.list []) = decide (ds = []) := by
  cases ds with
  | nil => simp [PyData.eqv, PyData.eqvAll]
  | cons n r => simp [PyData.eqv, PyData.eqvAll]
theorem dpAll_int_inv {K : PySem.W.Frag} {H : Hp} : ∀ {xs : List V} {r : List Int}, DpAll K H xs (r.map PyData.int) → xs = r.map V.int
  | _, [], h => by cases h; rfl
  | _, n :: r, h => by
    cases h with
    | cons h1 h2 =>
      cases h1
      rw [dpAll_int_inv h2]
      rfl
theorem dp_row {K : PySem.W.Frag} {H : Hp} {v : V} {r : List Int} (h : Dp K H v (rowD r)) : ∃ a, v = .ref a ∧ SqT K H a (r.map V.int) := by
  unfold rowD at h
  cases h with
  | tup hs ha => exact ⟨_, rfl, (dpAll_int_inv ha) ▸ hs⟩
theorem row_dp {K : PySem.W.Frag} {H : Hp} {a : Addr} {r : List Int} (h : SqT K H a (r.map V.int)) : Dp K H (.ref a) (rowD r) := .tup h (dpAll_ints r)
theorem dpAll_append {K : PySem.W.Frag} {H : Hp} : ∀ {xs ys : List V} {ds es : List PyData}, DpAll K H xs ds → DpAll K H ys es → DpAll K H (xs ++ ys) (ds ++ es)
  | _, _, _, _, .nil, h => h
  | _, _, _, _, .cons h t, g => .cons h (dpAll_append t g)
theorem dpAll_row {K : PySem.W.Frag} {H : Hp} {vs : List V} {rs : List (List Int)} {i : Nat} {v : V} (h : DpAll K H vs (rs.map rowD)) (e : vs[i]? = some v) : ∃ a r, v = .ref a ∧ rs[i]? = some r ∧ r ∈ rs ∧ SqT K H a (r.map V.int) := by
  obtain ⟨d, g, _, hd⟩ := dpAll_get h e
  rw [List.getElem?_map] at g
  cases hr : rs[i]? with
  | none => rw [hr] at g; cases g
  | some r =>
    rw [hr] at g
    have ed : d = rowD r := (Option.some.inj g).symm
    subst ed
    obtain ⟨a, rfl, ha⟩ := dp_row hd
    exact ⟨a, r, rfl, rfl, List.mem_of_getElem? hr, ha⟩
/-- rests below p -/
def RowOk (p : Int) (r : List Int) : Prop := ∀ x ∈ r, 0 ≤ x ∧ x < p

/-! ### comprehensions of ints -/
def LcGoal (J : It) (g : TG) (tt : TT) (te : TE) (vs : List Nat) (σ : L2.St) (H : Hp) (Qd : Addr → Hp → Prop) : Prop := ∀ D, H D = none → ∃ W : Nat → Nat → Hp → Prop, (∃ m, W 0 m (upd H D (.lst []))) ∧ ∀ i m H, W i m H →
  (J.stop i H ∧ Qd D H) ∨ (J.go i H ∧ ∃ Nx : Hp → Prop, (∀ H', Nx H' → ∃ m', m' < m ∧ W (i + 1) m' H') ∧ ∀ x H', J.yld i H x H' → g x (wipe σ vs) H' fun σ2 H2 => wipe σ2 vs = wipe σ vs ∧ tt σ2 H2 fun b H3 =>
    if b = true then te σ2 H3 fun y H4 => ∃ acc, H4 D = some (.lst acc) ∧ acc.length < sizeLine ∧ Nx (upd H4 D (.lst (acc ++ [y]))) else Nx H3)
theorem lc_zipI {K : PySem.W.Frag} {a b : Addr} {xs ys : List Int} {σ : L2.St} {H : Hp} {Qd : Addr → Hp → Prop} {i j : Nat} {vs : List Nat} {te : TE} (f : Int → Int → Int) (hA : SqT K H a (xs.map V.int)) (hB : SqT K H b (ys.map V.int)) (hz : xs.length ≤ 1000)
    (hw : ∀ x y : Option V, wipe (((wipe σ vs).set i x).set j y) vs = wipe σ vs)
    (hte : ∀ (x y : Int) (H' : Hp) (Q' : VK), x ∈ xs → y ∈ ys → Same H H' → Q' (.int (f x y)) H' → te (((wipe σ vs).set i (some (.int x))).set j (some (.int y))) H' Q')
    (hd : ∀ D H', Same H H' → H D = none → H' D = some (.lst ((List.zipWith f xs ys).map V.int)) → Qd D H') :
    LcGoal (RZ.ItzT K a b) (gTup K 2 (gCons (gName i) (gCons (gName j) gNil))) tYes te vs σ H Qd := by
  intro D nD
  refine lc_it (walk_zipT (K := K) (a := a) (b := b) (xs := xs.map V.int) (ys := ys.map V.int) rfl) (fun k H' => Same H H' ∧ H' D = some (.lst (((List.zipWith f xs ys).take k).map V.int))) ⟨same_mut (Same.refl H) nD, upd_same⟩ (fun k H' _ hP => ⟨Same.tup hP.1 hA, Same.tup hP.1 hB⟩) (fun k x H1 H2 hk hP hY => ?_) (fun H' hP => hd D H' hP.1 nD ?_)
  · obtain ⟨Ta, x1, y1, rfl, nT, rfl, e1, e2⟩ := hY
    obtain ⟨sm, eD⟩ := hP
    have sT : Same H1 (upd H1 Ta (.tup [x1, y1])) := same_upd nT
    have e1 : (xs.map V.int)[k]? = some x1 := e1
    have e2 : (ys.map V.int)[k]? = some y1 := e2
    rw [List.getElem?_map] at e1 e2
    cases h1 : xs[k]? with
    | none => rw [h1] at e1; cases e1
    | some z1 =>
      cases h2 : ys[k]? with
      | none => rw [h2] at e2; cases e2
      | some z2 =>
        rw [h1] at e1
        rw [h2] at e2
        have q1 : x1 = V.int z1 := (Option.some.inj e1).symm
        have q2 : y1 = V.int z2 := (Option.some.inj e2).symm
        subst q1 q2
        refine ⟨Ta, [.int z1, .int z2], rfl, .inl (.inl upd_same), rfl, .int z1, [.int z2], rfl, .int z2, [], rfl, rfl, hw _ _, ?_⟩
        refine hte z1 z2 _ _ (List.mem_of_getElem? h1) (List.mem_of_getElem? h2) (sm.trans sT) ⟨_, sT _ _ eD, ?_, same_mut (sm.trans sT) nD, ?_⟩
        · rw [List.length_map, List.length_take, List.length_zipWith]
          exact small1000 (by omega)
        · rw [upd_same, List.take_add_one, List.getElem?_zipWith, h1, h2, List.map_append]
          rfl
  · obtain ⟨sm, eD⟩ := hP
    rw [eD, List.take_of_length_le]
    rw [List.length_zipWith, List.length_map, List.length_map]
    exact Nat.le_refl _
theorem lc_tupI {K : PySem.W.Frag} {a : Addr} {xs : List Int} {σ : L2.St} {H : Hp} {Qd : Addr → Hp → Prop} {i : Nat} {vs : List Nat} {te : TE} (f : Int → Int) (hA : SqT K H a (xs.map V.int)) (hz : xs.length ≤ 1000)
    (hw : ∀ x : Option V, wipe ((wipe σ vs).set i x) vs = wipe σ vs)
    (hte : ∀ (x : Int) (H' : Hp) (Q' : VK), x ∈ xs → Same H H' → Q' (.int (f x)) H' → te ((wipe σ vs).set i (some (.int x))) H' Q')
    (hd : ∀ D H', Same H H' → H D = none → H' D = some (.lst ((xs.map f).map V.int)) → Qd D H') :
    LcGoal (Itt K a) (gName i) tYes te vs σ H Qd := by
  intro D nD
  refine lc_it (walk_tup (K := K) (a := a) (xs := xs.map V.int)) (fun k H' => Same H H' ∧ H' D = some (.lst (((xs.map f).take k).map V.int))) ⟨same_mut (Same.refl H) nD, upd_same⟩ (fun k H' _ hP => Same.tup hP.1 hA) (fun k x H1 H2 hk hP hY => ?_) (fun H' hP => hd D H' hP.1 nD ?_)
  · obtain ⟨rfl, e1⟩ := hY
    obtain ⟨sm, eD⟩ := hP
    rw [List.getElem?_map] at e1
    cases h1 : xs[k]? with
    | none => rw [h1] at e1; cases e1
    | some z1 =>
      rw [h1] at e1
      have q1 : x = V.int z1 := (Option.some.inj e1).symm
      subst q1
      refine ⟨hw _, hte z1 _ _ (List.mem_of_getElem? h1) sm ⟨_, eD, ?_, same_mut sm nD, ?_⟩⟩
      · rw [List.length_map, List.length_take, List.length_map]
        exact small1000 (by omega)
      · rw [upd_same, List.take_add_one, List.getElem?_map, h1, List.map_append]
        rfl
  · obtain ⟨sm, eD⟩ := hP
    rw [eD, List.take_of_length_le]
    rw [List.length_map, List.length_map]
    exact Nat.le_refl _
end OC

set_option Elab.async false
set_option linter.all false
set_option maxRecDepth 100000
namespace OC
open PySem PySem.Spec PyProof.Rows L2
def topS (i : Nat) : Stmt := PySem.Challenge.pw_opencalls_k03_rows_reckoned.main.body.getD i (.Pass ⟨0, 0, 0, 0⟩)
abbrev s_added : Stmt := topS 1
abbrev N_added : List Str := ["p", "one", "other", "a", "b"]
theorem sc_added : FnScope N_added ["p", "one", "other"] (defScope s_added) := ⟨rfl, rfl, rfl, by decide +kernel, rfl, by decide +kernel, by decide +kernel⟩
abbrev s_times : Stmt := topS 2
abbrev N_times : List Str := ["p", "a", "row", "rest"]
theorem sc_times : FnScope N_times ["p", "a", "row"] (defScope s_times) := ⟨rfl, rfl, rfl, by decide +kernel, rfl, by decide +kernel, by decide +kernel⟩
abbrev s_worth : Stmt := topS 3
abbrev N_worth : List Str := ["p", "row", "world", "a", "b"]
theorem sc_worth : FnScope N_worth ["p", "row", "world"] (defScope s_worth) := ⟨rfl, rfl, rfl, by decide +kernel, rfl, by decide +kernel, by decide +kernel⟩
abbrev s_made_of : Stmt := topS 4
abbrev N_made_of : List Str := ["p", "n", "rows", "factors", "total", "row", "factor"]
theorem sc_made_of : FnScope N_made_of ["p", "n", "rows", "factors"] (defScope s_made_of) := ⟨rfl, rfl, rfl, by decide +kernel, rfl, by decide +kernel, by decide +kernel⟩
abbrev s__law_deck : Stmt := topS 6
abbrev N__law_deck : List Str := ["_law_script", "_law_cell"]
theorem sc__law_deck : FnScope N__law_deck ["_law_script"] (defScope s__law_deck) := ⟨rfl, rfl, rfl, by decide +kernel, rfl, by decide +kernel, by decide +kernel⟩
abbrev s__law_draw : Stmt := topS 7
abbrev N__law_draw : List Str := ["_law_deck_here", "_law_many", "_law_cell", "_law_place"]
theorem sc__law_draw : FnScope N__law_draw ["_law_deck_here", "_law_many"] (defScope s__law_draw) := ⟨rfl, rfl, rfl, by decide +kernel, rfl, by decide +kernel, by decide +kernel⟩
abbrev s__law_whole : Stmt := topS 8
abbrev N__law_whole : List Str := ["_law_thing"]
theorem sc__law_whole : FnScope N__law_whole ["_law_thing"] (defScope s__law_whole) := ⟨rfl, rfl, rfl, by decide +kernel, rfl, by decide +kernel, by decide +kernel⟩
abbrev s__law_same : Stmt := topS 9
abbrev N__law_same : List Str := ["_law_found", "_law_due", "_law_one", "_law_other"]
theorem sc__law_same : FnScope N__law_same ["_law_found", "_law_due"] (defScope s__law_same) := ⟨rfl, rfl, rfl, by decide +kernel, rfl, by decide +kernel, by decide +kernel⟩
abbrev s__law_prime : Stmt := topS 10
abbrev N__law_prime : List Str := ["_law_deck_here"]
theorem sc__law_prime : FnScope N__law_prime ["_law_deck_here"] (defScope s__law_prime) := ⟨rfl, rfl, rfl, by decide +kernel, rfl, by decide +kernel, by decide +kernel⟩
abbrev s__law_row : Stmt := topS 11
abbrev N__law_row : List Str := ["_law_deck_here", "_law_p", "_law_n", "_law_place"]
theorem sc__law_row : FnScope N__law_row ["_law_deck_here", "_law_p", "_law_n"] (defScope s__law_row) := ⟨rfl, rfl, rfl, by decide +kernel, rfl, by decide +kernel, by decide +kernel⟩
abbrev s__law_plus : Stmt := topS 12
abbrev N__law_plus : List Str := ["_law_p", "_law_one", "_law_other", "_law_many", "_law_left", "_law_right"]
theorem sc__law_plus : FnScope N__law_plus ["_law_p", "_law_one", "_law_other", "_law_many"] (defScope s__law_plus) := ⟨rfl, rfl, rfl, by decide +kernel, rfl, by decide +kernel, by decide +kernel⟩
abbrev s__law_worth : Stmt := topS 13
abbrev N__law_worth : List Str := ["_law_p", "_law_row_here", "_law_world", "_law_found", "_law_place"]
theorem sc__law_worth : FnScope N__law_worth ["_law_p", "_law_row_here", "_law_world"] (defScope s__law_worth) := ⟨rfl, rfl, rfl, by decide +kernel, rfl, by decide +kernel, by decide +kernel⟩
abbrev s__law_mixed : Stmt := topS 14
abbrev N__law_mixed : List Str := ["_law_deck_here", "_law_p", "_law_n", "_law_rows_here", "_law_found", "_law_row_here"]
theorem sc__law_mixed : FnScope N__law_mixed ["_law_deck_here", "_law_p", "_law_n", "_law_rows_here"] (defScope s__law_mixed) := ⟨rfl, rfl, rfl, by decide +kernel, rfl, by decide +kernel, by decide +kernel⟩
abbrev s__law_rows : Stmt := topS 15
abbrev N__law_rows : List Str := ["_law_deck_here", "_law_p", "_law_n", "_law_upto", "_law_found", "_law_k", "_law_way"]
theorem sc__law_rows : FnScope N__law_rows ["_law_deck_here", "_law_p", "_law_n", "_law_upto"] (defScope s__law_rows) := ⟨rfl, rfl, rfl, by decide +kernel, rfl, by decide +kernel, by decide +kernel⟩
abbrev s__law_two_right : Stmt := topS 16
abbrev N__law_two_right : List Str := ["_law_p", "_law_one", "_law_other", "_law_world", "_law_a", "_law_both"]
theorem sc__law_two_right : FnScope N__law_two_right ["_law_p", "_law_one", "_law_other", "_law_world", "_law_a"] (defScope s__law_two_right) := ⟨rfl, rfl, rfl, by decide +kernel, rfl, by decide +kernel, by decide +kernel⟩
abbrev s_law : Stmt := topS 17
abbrev N_law : List Str := ["_law_script", "_law_deck_here", "_law_turn", "_law_p", "_law_n", "_law_one", "_law_other", "_law_world", "_law_a", "_law_rows_here", "_law_row_here", "_law_factors", "_law_due", "_law_factor"]
theorem sc_law : FnScope N_law ["_law_script"] (defScope s_law) := ⟨rfl, rfl, rfl, by decide +kernel, rfl, by decide +kernel, by decide +kernel⟩
structure Top (K : PySem.W.Frag) (mg : Str → Option Value) : Prop where
  b_abs : mg "abs" = none
  b_all : mg "all" = none
  b_bool : mg "bool" = none
  b_int : mg "int" = none
  b_isinstance : mg "isinstance" = none
  b_len : mg "len" = none
  b_range : mg "range" = none
  b_str : mg "str" = none
  b_sum : mg "sum" = none
  b_tuple : mg "tuple" = none
  b_zip : mg "zip" = none
  d_added : Df K mg "added" s_added ["p", "one", "other"]
  d_times : Df K mg "times" s_times ["p", "a", "row"]
  d_worth : Df K mg "worth" s_worth ["p", "row", "world"]
  d_made_of : Df K mg "made_of" s_made_of ["p", "n", "rows", "factors"]
  d__law_deck : Df K mg "_law_deck" s__law_deck ["_law_script"]
  d__law_draw : Df K mg "_law_draw" s__law_draw ["_law_deck_here", "_law_many"]
  d__law_whole : Df K mg "_law_whole" s__law_whole ["_law_thing"]
  d__law_same : Df K mg "_law_same" s__law_same ["_law_found", "_law_due"]
  d__law_prime : Df K mg "_law_prime" s__law_prime ["_law_deck_here"]
  d__law_row : Df K mg "_law_row" s__law_row ["_law_deck_here", "_law_p", "_law_n"]
  d__law_plus : Df K mg "_law_plus" s__law_plus ["_law_p", "_law_one", "_law_other", "_law_many"]
  d__law_worth : Df K mg "_law_worth" s__law_worth ["_law_p", "_law_row_here", "_law_world"]
  d__law_mixed : Df K mg "_law_mixed" s__law_mixed ["_law_deck_here", "_law_p", "_law_n", "_law_rows_here"]
  d__law_rows : Df K mg "_law_rows" s__law_rows ["_law_deck_here", "_law_p", "_law_n", "_law_upto"]
  d__law_two_right : Df K mg "_law_two_right" s__law_two_right ["_law_p", "_law_one", "_law_other", "_law_world", "_law_a"]
abbrev Bad (d c : Addr) : Addr → Prop := fun a => a = d ∨ a = c
theorem Deck.fresh {H : Hp} {d c p : Addr} {t : Int} (D : Deck H d c t) (n : H p = none) : ¬ Bad d c p := by
  obtain ⟨hd, ⟨cells, h1, h2⟩, _, t0⟩ := D
  rintro (z | z)
  · subst z; rw [hd] at n; cases n
  · subst z; rw [h1] at n; cases n
def L0 : PyData → Prop := fun _ => False
section
variable {P : Program} {w : World} {K : PySem.W.Frag} {mg : Str → Option Value} {base : Heap}
def sp_whole (K : PySem.W.Frag) : Sp := fun vs H Q _ => ∃ (v : V) (k : Kd), vs = [v] ∧ KdOf K H v k ∧ Q (.bl (decide (k = .int))) H
theorem ok__law_whole (T : Top K mg) : Ok P w K mg base 1 "_law_whole" ["_law_thing"] (sp_whole K) := by
  refine T.d__law_whole.ok sc__law_whole (fun vs H Q E h => ?_) (fun f cdv A outer s H vs Q E hr h => ?_)
  · obtain ⟨v, k, rfl, _⟩ := h
    rfl
  · obtain ⟨v, k, rfl, ty, q⟩ := h
    refine ⟨_, ((pss_one (ps_ret (pe_and (pe_callB call_isi (by rfl) T.b_isinstance (by decide +kernel) (pa_cons (pv 0) (pa_cons (pe_bltn (v := .ty "int") (u := .type "int") (by rfl) T.b_int (by decide +kernel) rfl) pa_nil))) (pe_one (pe_not (pe_callB call_isi (by rfl) T.b_isinstance (by decide +kernel) (pa_cons (pv 0) (pa_cons (pe_bltn (v := .ty "bool") (u := .type "bool") (by rfl) T.b_bool (by decide +kernel) rfl) pa_nil))))))))), ?_⟩
    refine ⟨v, rfl, v, .ty "int", _, _, _, rfl, .ty "int", ty, kit_int k, _, rfl, ?_⟩
    cases k <;> first | exact q | exact ⟨v, rfl, v, .ty "bool", _, _, _, rfl, .ty "bool", ty, kit_bool _, _, rfl, q⟩

def sp_deck (K : PySem.W.Frag) : Sp := fun vs H Q _ => ∃ (a : Addr) (ns : List Int), vs = [.ref a] ∧ SqL K H a (ns.map V.int) ∧ ns.length ≤ 63 ∧ ∀ H' d c, Same H H' → Deck H' d c 0 → H d = none → H c = none → Q (.ref d) H'
theorem ok__law_deck (T : Top K mg) : Ok P w K mg base 1 "_law_deck" ["_law_script"] (sp_deck K) := by
  refine T.d__law_deck.ok sc__law_deck (fun vs H Q E h => ?_) (fun f cdv A outer s H vs Q E hr h => ?_)
  · obtain ⟨a, ns, rfl, _⟩ := h
    rfl
  · obtain ⟨a, ns, rfl, hS, hl, q⟩ := h
    refine ⟨_, ((pss_one (ps_ret (pe_lst (pa_cons (pe_lc (own := [("_law_cell", 1)]) (g := gName 1) (by rfl) sc__law_deck.nd (pi_list (pe_slice sl_list (pv 0) po_none (po_some pe_int))) (blkOk_by (own := [("_law_cell", 1)]) (N := N__law_deck) (sc := defScope s__law_deck) (by decide +kernel)) (fun _ _ _ _ _ => (pg_name (i := 1) sc__law_deck.nd rfl (.inl rfl))) (fun _ _ _ _ _ => pts_nil) (fun _ _ _ _ _ => (pe_callB call_abs (by rfl) T.b_abs (by decide +kernel) (pa_cons (pv 1) pa_nil)))) (pa_cons pe_int pa_nil)))))), ?_⟩
    refine ⟨.ref a, rfl, 63, rfl, a, ns.map V.int, rfl, hS, fun l nl => ?_⟩
    have ec : cutV (ns.map V.int) none (some 63) = ns.map V.int := by
      unfold cutV
      rw [HT.sIx_none, show HT.sIx (ns.map V.int).length (ns.map V.int).length (some 63) = min 63 (ns.map V.int).length from HT.sIx_nat _ _ 63]
      rw [List.drop_zero]
      exact List.take_of_length_le (by rw [List.length_map]; omega)
    rw [ec]
    have s1 : Same H (upd H l (.lst (ns.map V.int))) := same_upd nl
    refine ⟨l, rfl, ⟨_, .inl (.inl upd_same)⟩, fun D nD => ?_⟩
    have nl' : H D = none := s1.free nD
    have nDl : l ≠ D := ne_of_none upd_same nD
    refine lc_list (xs := ns.map V.int) (fun i H' => Same H H' ∧ H' l = some (.lst (ns.map V.int)) ∧ H' D = some (.lst ((ns.take i).map fun x => V.int (if x < 0 then -x else x)))) ⟨same_mut s1 nl', ?_, ?_⟩ (fun i H' _ hP => .inl (.inl hP.2.1)) (fun i x H' hx hP => ?_) (fun H' hP => ?_)
    · rw [upd_ne nDl, upd_same]
    · rw [upd_same]; rfl
    · obtain ⟨sm, e1, e2⟩ := hP
      rw [List.getElem?_map] at hx
      cases hn : ns[i]? with
      | none => rw [hn] at hx; cases hx
      | some z =>
        rw [hn] at hx
        have ez : x = V.int z := (Option.some.inj hx).symm
        subst ez
        refine ⟨rfl, .int z, rfl, z, rfl, _, e2, ?_, same_mut sm nl', ?_, ?_⟩
        · rw [List.length_map, List.length_take]
          exact Nat.lt_of_le_of_lt (Nat.min_le_right _ _) (small1000 (by omega))
        · rw [upd_ne nDl]; exact e1
        · rw [upd_same, List.take_add_one, hn, List.map_append]
          rfl
    · obtain ⟨sm, e1, e2⟩ := hP
      rw [List.length_map, List.take_length] at e2
      refine ⟨(by show 2 ≤ sizeLine; decide), fun p np => ?_⟩
      have sp : Same H' (upd H' p (.lst [.ref D, .int 0])) := same_upd np
      refine q _ p D (sm.trans sp) ⟨upd_same, ⟨ns.map fun x => if x < 0 then -x else x, ?_, fun x hx => ?_, by rw [List.length_map]; exact hl⟩, fun z => ?_, by decide⟩ (sm.free np) nl'
      · rw [sp _ _ e2, List.map_map]
        rfl
      · obtain ⟨y, _, rfl⟩ := List.mem_map.mp hx
        by_cases hy : y < 0
        · rw [if_pos hy]; omega
        · rw [if_neg hy]; omega
      · subst z
        rw [e2] at np
        cases np

def sp_draw : Sp := fun vs H Q _ => ∃ (d c : Addr) (t m : Int), vs = [.ref d, .int m] ∧ Deck H d c t ∧ t < 1000000 ∧ 0 < m ∧ m < 1073741824 ∧ ∀ H' r, Kept d c H H' → Deck H' d c (t + 1) → 0 ≤ r → r < m → Q (.int r) H'
theorem ok__law_draw (T : Top K mg) : Ok P w K mg base 1 "_law_draw" ["_law_deck_here", "_law_many"] sp_draw := by
  refine T.d__law_draw.ok sc__law_draw (fun vs H Q E h => ?_) (fun f cdv A outer s H vs Q E hr h => ?_)
  · obtain ⟨d, c, t, m, rfl, _⟩ := h
    rfl
  · obtain ⟨d, c, t, m, rfl, ⟨hd, ⟨cells, hc, hp, hl⟩, hne, ht0⟩, ht, hm0, hm1, q⟩ := h
    refine ⟨_, ((pss_cons (ps_asg (pe_op op_add (pe_ix ix_list (pv 0) pe_int (fun _ _ => rfl)) pe_int) (pg_sub (pv 0) pe_int set_list))
      (pss_cons (ps_set (i := 2) sc__law_draw.nd rfl (.inl rfl) pe_int)
      (pss_cons (ps_set (i := 3) sc__law_draw.nd rfl (.inl rfl) (pe_un un_neg pe_int))
      (pss_cons (ps_if (pt_cmpR op_gt (pe_callB call_len_seq (by rfl) T.b_len (by decide +kernel) (pa_cons (pe_ix ix_list (pv 0) pe_int (fun _ _ => rfl)) pa_nil)) pe_int (nomark _))
        (pss_cons (ps_set (i := 3) sc__law_draw.nd rfl (.inl rfl) (pe_op op_mod (pe_ix ix_list (pv 0) pe_int (fun _ _ => rfl)) (pe_callB call_len_seq (by rfl) T.b_len (by decide +kernel) (pa_cons (pe_ix ix_list (pv 0) pe_int (fun _ _ => rfl)) pa_nil))))
        (pss_one (ps_set (i := 2) sc__law_draw.nd rfl (.inl rfl) (pe_ix ix_list (pe_ix ix_list (pv 0) pe_int (fun _ _ => rfl)) (pv 3) (fun _ _ => rfl)))))
        pss_nil)
      (pss_cons (ps_if (pt_cmpR op_ge (pv 2) (pe_op op_pow pe_int pe_int) (nomark _))
        (pss_cons (ps_asg (pe_op op_fdiv (pv 2) (pv 1)) (pg_sub (pe_ix ix_list (pv 0) pe_int (fun _ _ => rfl)) (pv 3) set_list))
        (pss_one (ps_ret (pe_op op_mod (pv 2) (pv 1)))))
        pss_nil)
      (pss_one (ps_ret (pe_op op_mod (pe_op op_fdiv (pe_op op_mod (pe_op op_pow (pe_op op_add (pe_op op_add (pe_op op_mod (pv 2) pe_int) (pe_op op_mul pe_int (pe_ix ix_list (pv 0) pe_int (fun _ _ => rfl)))) pe_int) pe_int) pe_int) pe_int) (pv 1)))))))))), ?_⟩
    refine ⟨.ref d, rfl, d, _, 1, .int t, rfl, rfl, .inl (.inl hd), rfl, t, 1, rfl, rfl, .ref d, rfl, d, _, 1, 1, rfl, rfl, hd, rfl, ?_⟩
    have hd1 : (upd H d (.lst ([V.ref c, .int t].set 1 (.int (t + 1))))) d = some (.lst [.ref c, .int (t + 1)]) := upd_same
    have hc1 : (upd H d (.lst ([V.ref c, .int t].set 1 (.int (t + 1))))) c = some (.lst (cells.map V.int)) := by
      rw [upd_ne hne]; exact hc
    have k1 : Kept d c H (upd H d (.lst ([V.ref c, .int t].set 1 (.int (t + 1))))) := fun b o h n _ => by
      rw [upd_ne n]; exact h
    generalize upd H d (.lst ([V.ref c, .int t].set 1 (.int (t + 1)))) = H1 at hd1 hc1 k1 ⊢
    have D1 : Deck H1 d c (t + 1) := ⟨hd1, ⟨cells, hc1, hp, hl⟩, hne, by omega⟩
    refine ⟨1, rfl, .ref d, rfl, d, _, 0, .ref c, rfl, rfl, .inl (.inl hd1), rfl, c, _, rfl, .inl (.inl (.inl hc1)), _, 0, rfl, rfl, _, rfl, ite2 (fun e => ?_) (fun e => ?_)⟩
    · have e0 : (0 : Int) < ((cells.map V.int).length : Int) := of_decide_eq_true e
      rw [List.length_map] at e0
      have z0 : 0 ≤ (t + 1) % (cells.length : Int) := Int.emod_nonneg _ (by omega)
      have z1 : (t + 1) % (cells.length : Int) < (cells.length : Int) := Int.emod_lt_of_pos _ e0
      obtain ⟨x, hx, hx2, hx3⟩ := at_int z0 z1
      have x0 := hp x hx
      refine ⟨.ref d, rfl, d, _, 1, .int (t + 1), rfl, rfl, .inl (.inl hd1), rfl, .ref d, rfl, d, _, 0, .ref c, rfl, rfl, .inl (.inl hd1), rfl, c, _, rfl, .inl (.inl (.inl hc1)), t + 1, (cells.length : Int), rfl, by rw [List.length_map], e0, ?_⟩
      refine ⟨.ref d, rfl, d, _, 0, .ref c, rfl, rfl, .inl (.inl hd1), rfl, .int ((t + 1) % (cells.length : Int)), rfl, c, _, _, .int x, rfl, rfl, .inl (.inl hc1), hx3, ?_⟩
      refine ⟨.int x, rfl, 10, 18, rfl, rfl, ⟨by decide, by decide, by decide⟩, _, _, rfl, rfl, _, rfl, ite2 (fun e => ?_) (fun e => ?_)⟩
      · refine ⟨.int x, rfl, .int m, rfl, x, m, rfl, rfl, ⟨hm0, hm1⟩, .ref d, rfl, d, _, 0, .ref c, rfl, rfl, .inl (.inl hd1), rfl, .int ((t + 1) % (cells.length : Int)), rfl, c, _, _, _, rfl, rfl, hc1, ix_nat z0 (by rw [List.length_map]; exact z1), ?_⟩
        refine ⟨.int x, rfl, .int m, rfl, x, m, rfl, rfl, hm0, q _ _ (k1.trans fun b o h _ n => ?_) ⟨?_, ⟨cells.set ((t + 1) % (cells.length : Int)).toNat (x / m), ?_, fun y hy => ?_, ?_⟩, hne, by omega⟩ (Int.emod_nonneg _ (by omega)) (Int.emod_lt_of_pos _ hm0)⟩
        · rw [upd_ne n]; exact h
        · rw [upd_ne (Ne.symm hne)]; exact hd1
        · rw [upd_same, List.map_set]
        · rcases List.mem_or_eq_of_mem_set hy with h | h
          · exact hp y h
          · rw [h]; exact Int.ediv_nonneg x0 (by omega)
        · rw [List.length_set]; exact hl
      · refine ⟨.int x, rfl, x, 2147483587, rfl, rfl, (show (0 : Int) < 2147483587 by decide), .ref d, rfl, d, _, 1, .int (t + 1), rfl, rfl, .inl (.inl hd1), rfl, 7919, t + 1, rfl, rfl, .inl ⟨by decide, by decide⟩, _, _, rfl, rfl, _, 1, rfl, rfl, _, 5, rfl, rfl, ⟨by decide, by decide, ?_⟩, _, 2147483647, rfl, rfl, (show (0 : Int) < 2147483647 by decide), _, 7, rfl, rfl, ⟨by decide, by decide⟩, .int m, rfl, _, m, rfl, rfl, hm0, q _ _ k1 D1 (Int.emod_nonneg _ (by omega)) (Int.emod_lt_of_pos _ hm0)⟩
        have := Int.emod_lt_of_pos x (show (0 : Int) < 2147483587 by decide)
        have := Int.emod_nonneg x (show (2147483587 : Int) ≠ 0 by decide)
        omega
    · refine ⟨.int 0, rfl, 10, 18, rfl, rfl, ⟨by decide, by decide, by decide⟩, _, _, rfl, rfl, _, rfl, ite2 (fun e => absurd (of_decide_eq_true e) (by decide)) (fun e => ?_)⟩
      refine ⟨.int 0, rfl, 0, 2147483587, rfl, rfl, (show (0 : Int) < 2147483587 by decide), .ref d, rfl, d, _, 1, .int (t + 1), rfl, rfl, .inl (.inl hd1), rfl, 7919, t + 1, rfl, rfl, .inl ⟨by decide, by decide⟩, _, _, rfl, rfl, _, 1, rfl, rfl, _, 5, rfl, rfl, ⟨by decide, by decide, ?_⟩, _, 2147483647, rfl, rfl, (show (0 : Int) < 2147483647 by decide), _, 7, rfl, rfl, ⟨by decide, by decide⟩, .int m, rfl, _, m, rfl, rfl, hm0, q _ _ k1 D1 (Int.emod_nonneg _ (by omega)) (Int.emod_lt_of_pos _ hm0)⟩
      omega

theorem same_step (T : Top K mg) {k : Nat} {L : PyData → Prop} (O__law_same : Ok P w K mg base (k + 1) "_law_same" ["_law_found", "_law_due"] (sp_same K L)) : Ok P w K mg base (k + 2) "_law_same" ["_law_found", "_law_due"] (sp_same K (Lv L)) := by
  have O__law_whole := ok__law_whole (P := P) (w := w) (base := base) T
  refine T.d__law_same.ok sc__law_same (fun vs H Q E h => ?_) (fun f cdv A outer s H vs Q E hr h => ?_)
  · obtain ⟨v, u, d, rfl, _⟩ := h
    rfl
  · obtain ⟨v, u, d, rfl, hv, hu, hL, q⟩ := h
    refine ⟨_, ((pss_cons (ps_if (pt_val (pe_callB call_isi (by rfl) T.b_isinstance (by decide +kernel) (pa_cons (pv 1) (pa_cons (pe_bltn (v := .ty "tuple") (u := .type "tuple") (by rfl) T.b_tuple (by decide +kernel) rfl) pa_nil))))
        (pss_cons (ps_if (PW.pt (pw_or (pt_not (pt_val (pe_callB call_isi (by rfl) T.b_isinstance (by decide +kernel) (pa_cons (pv 0) (pa_cons (pe_bltn (v := .ty "tuple") (u := .type "tuple") (by rfl) T.b_tuple (by decide +kernel) rfl) pa_nil))))) (pw_or1 (pt_cmpR op_ne (pe_callB call_len_seq (by rfl) T.b_len (by decide +kernel) (pa_cons (pv 0) pa_nil)) (pe_callB call_len_seq (by rfl) T.b_len (by decide +kernel) (pa_cons (pv 1) pa_nil)) (nomark _)))))
          (pss_one (ps_ret pe_bl))
          pss_nil)
        (pss_one (ps_ret (pe_callB (cr_all (by rfl)) (by rfl) T.b_all (by decide +kernel) (pa_cons (pe_lc (own := [("_law_one", 2), ("_law_other", 3)]) (g := gTup K 2 (gCons (gName 2) (gCons (gName 3) gNil))) (by rfl) sc__law_same.nd (RZ.pi_zipA (by rfl) T.b_zip (pa_cons (pv 0) (pa_cons (pv 1) pa_nil))) (blkOk_by (own := [("_law_one", 2), ("_law_other", 3)]) (N := N__law_same) (sc := defScope s__law_same) (by decide +kernel)) (fun _ _ _ _ _ => (pg_tup (by rfl) (pgs_cons (pg_name (i := 2) sc__law_same.nd rfl (.inl rfl)) (pgs_cons (pg_name (i := 3) sc__law_same.nd rfl (.inl rfl)) pgs_nil)))) (fun _ _ _ _ _ => pts_nil) (fun _ _ _ _ _ => (pe_callO O__law_same (hr.mono (by omega)) (by rfl) (pa_cons (pv 2) (pa_cons (pv 3) pa_nil))))) pa_nil)))))
        pss_nil)
      (pss_cons (ps_if (pt_cmpR op_isN (pv 1) pe_non (nomark _))
        (pss_one (ps_ret (pe_cmpR op_isN (pv 0) pe_non (nomark _))))
        pss_nil)
      (pss_cons (ps_if (pt_val (pe_callB call_isi (by rfl) T.b_isinstance (by decide +kernel) (pa_cons (pv 1) (pa_cons (pe_bltn (v := .ty "bool") (u := .type "bool") (by rfl) T.b_bool (by decide +kernel) rfl) pa_nil))))
        (pss_one (ps_ret (pe_and (pe_callB call_isi (by rfl) T.b_isinstance (by decide +kernel) (pa_cons (pv 0) (pa_cons (pe_bltn (v := .ty "bool") (u := .type "bool") (by rfl) T.b_bool (by decide +kernel) rfl) pa_nil))) (pe_one (pe_cmpR op_eq (pv 0) (pv 1) (nomark _))))))
        pss_nil)
      (pss_cons (ps_if (pt_val (pe_callB call_isi (by rfl) T.b_isinstance (by decide +kernel) (pa_cons (pv 1) (pa_cons (pe_bltn (v := .ty "str") (u := .type "str") (by rfl) T.b_str (by decide +kernel) rfl) pa_nil))))
        (pss_one (ps_ret (pe_and (pe_callB call_isi (by rfl) T.b_isinstance (by decide +kernel) (pa_cons (pv 0) (pa_cons (pe_bltn (v := .ty "str") (u := .type "str") (by rfl) T.b_str (by decide +kernel) rfl) pa_nil))) (pe_one (pe_cmpR op_eq (pv 0) (pv 1) (nomark _))))))
        pss_nil)
      (pss_one (ps_ret (pe_and (pe_callO O__law_whole (hr.mono (by omega)) (by rfl) (pa_cons (pv 0) pa_nil)) (pe_one (pe_cmpR op_eq (pv 0) (pv 1) (nomark _))))))))))), ?_⟩
    have tv := dp_kd hv
    have tu := dp_kd hu
    refine ⟨u, rfl, u, .ty "tuple", _, _, _, rfl, .ty "tuple", tu, kit_tuple _, _, rfl, ?_⟩
    rcases hL with hs | ⟨ds, rfl, hsz, hds⟩
    · cases d with
      | none =>
        cases hv
        cases hu
        exact iteF ⟨.non, rfl, rfl, _, rfl, iteT ⟨.non, rfl, rfl, q H (Same.refl H)⟩⟩
      | bool b =>
        cases hv
        cases hu
        refine iteF ⟨.bl b, rfl, rfl, _, rfl, iteF ?_⟩
        refine ⟨.bl b, rfl, .bl b, .ty "bool", _, _, _, rfl, .ty "bool", tu, kit_bool _, _, rfl, iteT ?_⟩
        refine ⟨.bl b, rfl, .bl b, .ty "bool", _, _, _, rfl, .ty "bool", tv, kit_bool _, _, rfl, iteT ⟨.bl b, rfl, .bl b, rfl, rfl, ?_⟩⟩
        rw [decide_eq_true rfl]
        exact q H (Same.refl H)
      | int i =>
        cases hv
        cases hu
        refine iteF ⟨.int i, rfl, rfl, _, rfl, iteF ?_⟩
        refine ⟨.int i, rfl, .int i, .ty "bool", _, _, _, rfl, .ty "bool", tu, kit_bool _, _, rfl, iteF ?_⟩
        refine ⟨.int i, rfl, .int i, .ty "str", _, _, _, rfl, .ty "str", tu, kit_str _, _, rfl, iteF ?_⟩
        refine ⟨.int i, rfl, .int i, .int, rfl, kd_int i, _, rfl, iteT ⟨.int i, rfl, .int i, rfl, rfl, ?_⟩⟩
        rw [decide_eq_true rfl]
        exact q H (Same.refl H)
      | str x =>
        cases hv
        cases hu
        refine iteF ⟨.str x, rfl, rfl, _, rfl, iteF ?_⟩
        refine ⟨.str x, rfl, .str x, .ty "bool", _, _, _, rfl, .ty "bool", tu, kit_bool _, _, rfl, iteF ?_⟩
        refine ⟨.str x, rfl, .str x, .ty "str", _, _, _, rfl, .ty "str", tu, kit_str _, _, rfl, iteT ?_⟩
        refine ⟨.str x, rfl, .str x, .ty "str", _, _, _, rfl, .ty "str", tv, kit_str _, _, rfl, iteT ⟨.str x, rfl, .str x, rfl, rfl, ?_⟩⟩
        rw [decide_eq_true rfl]
        exact q H (Same.refl H)
      | list ds => exact hs.elim
      | tuple ds => exact hs.elim
      | dict ds => exact hs.elim
    · cases hv with
      | @tup a xs _ hA hxs =>
        cases hu with
        | @tup b ys _ hB hys =>
          have lx := dpAll_len hxs
          have ly := dpAll_len hys
          have lxy : xs.length = ys.length := lx.trans ly.symm
          refine iteT ⟨.ref a, rfl, .ref a, .ty "tuple", _, _, _, rfl, .ty "tuple", tv, kit_tuple _, _, rfl, iteF ⟨.ref a, rfl, a, xs, rfl, .inr hA, .ref b, rfl, b, ys, rfl, .inr hB, rfl, _, rfl, ?_⟩⟩
          rw [decide_eq_true (show V.int ((xs.length : Nat) : Int) = V.int ((ys.length : Nat) : Int) by rw [lxy])]
          refine iteF ⟨.ref a, rfl, .ref b, rfl, a, b, xs, ys, rfl, .inr ⟨hA, hB, fun D nD => ?_⟩⟩
          have ln : xs.length = min xs.length ys.length := by omega
          refine lc_it (walk_zipT (K := K) (a := a) (b := b) ln) (fun i H' => Same H H' ∧ H' D = some (.lst ((List.replicate i true).map V.bl))) ⟨same_mut (Same.refl H) nD, upd_same⟩ (fun i H' _ hP => ⟨Same.tup hP.1 hA, Same.tup hP.1 hB⟩) (fun i x H1 H2 hi hP hY => ?_) (fun H' hP => ?_)
          · obtain ⟨Ta, x1, y1, rfl, nT, rfl, e1, e2⟩ := hY
            obtain ⟨sm, eD⟩ := hP
            have sT : Same H1 (upd H1 Ta (.tup [x1, y1])) := same_upd nT
            obtain ⟨d1, g1, m1, p1⟩ := dpAll_get hxs e1
            obtain ⟨d2, g2, m2, p2⟩ := dpAll_get hys e2
            have ed : d1 = d2 := Option.some.inj (g1.symm.trans g2)
            subst ed
            refine ⟨Ta, [x1, y1], rfl, .inl (.inl upd_same), rfl, x1, [y1], rfl, y1, [], rfl, rfl, rfl, x1, rfl, y1, rfl, x1, y1, d1, rfl, dp_same (sm.trans sT) _ _ p1, dp_same (sm.trans sT) _ _ p2, hds _ m1, fun H4 s4 => ⟨_, s4 _ _ (sT _ _ eD), ?_, same_mut ((sm.trans sT).trans s4) nD, ?_⟩⟩
            · rw [List.length_map, List.length_replicate]
              exact small1000 (by omega)
            · rw [upd_same, List.replicate_succ', List.map_append]
              rfl
          · obtain ⟨sm, eD⟩ := hP
            refine ⟨D, List.replicate xs.length true, rfl, .inl (.inl eD), ?_⟩
            rw [show (List.replicate xs.length true).all id = true from List.all_eq_true.mpr fun y hy => (List.eq_of_mem_replicate hy)]
            exact q H' sm
theorem ok_same2 (T : Top K mg) : Ok P w K mg base 3 "_law_same" ["_law_found", "_law_due"] (sp_same K (Lv (Lv L0))) :=
  same_step T (same_step T (ok_never T.d__law_same sc__law_same L0 (fun _ h => h) rfl))

def PR8 : List Int := [5, 7, 11, 101, 5, 13, 97, 23]
theorem pr8_bd : ∀ p ∈ PR8, 5 ≤ p ∧ p ≤ 101 := by decide +kernel
def sp_prime : Sp := fun vs H Q _ => ∃ (d c : Addr) (t : Int), vs = [.ref d] ∧ Deck H d c t ∧ t < 1000000 ∧ ∀ H' p, Kept d c H H' → Deck H' d c (t + 1) → p ∈ PR8 → Q (.int p) H'
theorem ok__law_prime (T : Top K mg) : Ok P w K mg base 2 "_law_prime" ["_law_deck_here"] sp_prime := by
  have O__law_draw := ok__law_draw (P := P) (w := w) (base := base) T
  refine T.d__law_prime.ok sc__law_prime (fun vs H Q E h => ?_) (fun f cdv A outer s H vs Q E hr h => ?_)
  · obtain ⟨d, c, t, rfl, _⟩ := h
    rfl
  · obtain ⟨d, c, t, rfl, D0, ht, q⟩ := h
    refine ⟨_, ((pss_one (ps_ret (pe_ix ix_list (pe_lst (pa_cons pe_int (pa_cons pe_int (pa_cons pe_int (pa_cons pe_int (pa_cons pe_int (pa_cons pe_int (pa_cons pe_int (pa_cons pe_int pa_nil))))))))) (pe_callO O__law_draw (hr.mono (by omega)) (by rfl) (pa_cons (pv 0) (pa_cons pe_int pa_nil))) (fun _ _ => rfl))))), ?_⟩
    refine ⟨sz1000 (by decide : (8 : Nat) ≤ 1000), fun L nL => ?_⟩
    generalize h1 : upd H L _ = H1
    obtain ⟨s1, e1⟩ := new_of h1 nL
    refine ⟨.ref d, rfl, d, c, t, 8, rfl, D0.same s1, ht, by decide, by decide, fun H' r k' D' r0 r1 => ?_⟩
    have bL := D0.fresh nL
    have eL' : H' L = some (.lst (PR8.map V.int)) := k' _ _ e1 (fun z => bL (.inl z)) (fun z => bL (.inr z))
    obtain ⟨x, hx, _, hx3⟩ := at_int (xs := PR8) r0 r1
    exact ⟨L, _, r, .int x, rfl, rfl, .inl (.inl eL'), hx3, q H' x (fun b o h n1 n2 => k' b o (s1 b o h) n1 n2) D' hx⟩

def sp_row : Sp := fun vs H Q _ => ∃ (d c : Addr) (t p n : Int), vs = [.ref d, .int p, .int n] ∧ Deck H d c t ∧ t ≤ 990000 ∧ 2 ≤ p ∧ p ≤ 1000 ∧ 0 ≤ n ∧ n ≤ 100 ∧ ∀ H' a r t', Kept d c H H' → Deck H' d c t' → t' ≤ t + 2 * n → H a = none → H' a = some (.tup (r.map V.int)) → (r.length : Int) = n → RowOk p r → Q (.ref a) H'
theorem ok__law_row (T : Top K mg) : Ok P w K mg base 2 "_law_row" ["_law_deck_here", "_law_p", "_law_n"] sp_row := by
  have O__law_draw := ok__law_draw (P := P) (w := w) (base := base) T
  refine T.d__law_row.ok sc__law_row (fun vs H Q E h => ?_) (fun f cdv A outer s H vs Q E hr h => ?_)
  · obtain ⟨d, c, t, p, n, rfl, _⟩ := h
    rfl
  · obtain ⟨d, c, t, p, n, rfl, D0, ht, hp1, hp2, hn1, hn2, q⟩ := h
    refine ⟨_, ((pss_one (ps_ret (pe_callTy call_tuple_of (by rfl) T.b_tuple (by decide +kernel) (pa_cons (pe_lc (own := [("_law_place", 3)]) (g := gName 3) (by rfl) sc__law_row.nd (pi_range1 (by rfl) T.b_range (pa_cons (pv 2) pa_nil)) (blkOk_by (own := [("_law_place", 3)]) (N := N__law_row) (sc := defScope s__law_row) (by decide +kernel)) (fun _ _ _ _ _ => (pg_name (i := 3) sc__law_row.nd rfl (.inl rfl))) (fun _ _ _ _ _ => pts_nil) (fun _ _ _ _ _ => (pe_ix (show IxR _ (rIxL K) from ix_list) (pe_lst (pa_cons pe_int (pa_cons pe_int (pa_cons (pe_op op_sub (pv 1) pe_int) (pa_cons (pe_callO O__law_draw (hr.mono (by omega)) (by rfl) (pa_cons (pv 0) (pa_cons (pv 1) pa_nil))) pa_nil))))) (pe_callO O__law_draw (hr.mono (by omega)) (by rfl) (pa_cons (pv 0) (pa_cons pe_int pa_nil))) (fun _ _ => rfl)))) pa_nil))))), ?_⟩
    refine ⟨.int n, rfl, n, rfl, by omega, by omega, fun B nB => ?_⟩
    have bB := D0.fresh nB
    refine lc_range (lo := 0) (n := n.toNat) (fun i H' => Kept d c H H' ∧ ∃ (t' : Int) (r : List Int), Deck H' d c t' ∧ t' ≤ t + 2 * i ∧ H' B = some (.lst (r.map V.int)) ∧ r.length = i ∧ RowOk p r) ⟨Kept.of (same_upd nB), t, [], D0.same (same_upd nB), by omega, upd_same, rfl, fun x hx => nomatch hx⟩ (fun i H' hi hW => ?_) (fun H' hW => ?_)
    · obtain ⟨k', t', r, D', ht', eB, ln, ro⟩ := hW
      refine ⟨rfl, .int p, rfl, p, 1, rfl, rfl, .ref d, rfl, .int p, rfl, d, c, t', p, rfl, D', by omega, by omega, by omega, fun H1 z1 k1 D1 z10 z11 => ?_⟩
      refine ⟨sz1000 (by decide : (4 : Nat) ≤ 1000), fun L nL => ?_⟩
      generalize h2 : upd H1 L _ = H2
      obtain ⟨s2, e2⟩ := new_of h2 nL
      have D2 := D1.same s2
      have bL := D1.fresh nL
      refine ⟨.ref d, rfl, d, c, t' + 1, 4, rfl, D2, by omega, by decide, by decide, fun H3 z2 k3 D3 z20 z21 => ?_⟩
      have eL : H3 L = some (.lst ([0, 1, p - 1, z1].map V.int)) := k3 _ _ e2 (fun z => bL (.inl z)) (fun z => bL (.inr z))
      obtain ⟨x, hx, _, hx3⟩ := at_int (xs := [0, 1, p - 1, z1]) z20 z21
      have eB3 : H3 B = some (.lst (r.map V.int)) := k3 _ _ (s2 _ _ (k1 _ _ eB (fun z => bB (.inl z)) (fun z => bB (.inr z)))) (fun z => bB (.inl z)) (fun z => bB (.inr z))
      have kk : Kept d c H H3 := fun b o h n1 n2 => k3 b o (s2 b o (k1 b o (k' b o h n1 n2) n1 n2)) n1 n2
      refine ⟨L, _, z2, .int x, rfl, rfl, .inl (.inl eL), hx3, r.map V.int, eB3, by rw [List.length_map]; exact small1000 (by omega), fun b o h n1 n2 => ?_, t' + 1 + 1, r ++ [x], ?_, by omega, ?_, by rw [List.length_append, ln]; rfl, fun y hy => ?_⟩
      · rw [upd_ne (ne_of_none h nB)]
        exact kk b o h n1 n2
      · obtain ⟨hd, ⟨cells, h1, h2⟩, n, t0⟩ := D3
        exact ⟨by rw [upd_ne (fun z => bB (.inl z.symm))]; exact hd, ⟨cells, by rw [upd_ne (fun z => bB (.inr z.symm))]; exact h1, h2⟩, n, t0⟩
      · rw [upd_same, List.map_append]
        rfl
      · rcases List.mem_append.mp hy with h | h
        · exact ro y h
        · have : y = x := by simpa using h
          subst this
          simp only [List.mem_cons, List.not_mem_nil, or_false] at hx
          omega
    · obtain ⟨k', t', r, D', ht', eB, ln, ro⟩ := hW
      refine ⟨B, _, rfl, .inl ⟨.inl (.inl eB), fun l nl => ?_⟩⟩
      generalize h2 : upd H' l _ = H2
      obtain ⟨s2, e2⟩ := new_of h2 nl
      refine q H2 l r t' (fun b o h n1 n2 => s2 b o (k' b o h n1 n2)) (D'.same s2) (by omega) ?_ e2 (by omega) ro
      cases hl : H l with
      | none => rfl
      | some o =>
        have bl := D'.fresh nl
        rw [k' l o hl (fun z => bl (.inl z)) (fun z => bl (.inr z))] at nl
        cases nl

def plusR (p : Int) (x y : List Int) (m : Int) : List Int := List.zipWith (fun a b => (a + m * b) % p) x y
def sp_plus (K : PySem.W.Frag) : Sp := fun vs H Q _ => ∃ (a b : Addr) (x y : List Int) (p m : Int), vs = [.int p, .ref a, .ref b, .int m] ∧ SqT K H a (x.map V.int) ∧ SqT K H b (y.map V.int) ∧ x.length ≤ 1000 ∧ 0 < p ∧ -1000000 ≤ m ∧ m ≤ 1000000 ∧
  ∀ H' l, Same H H' → H l = none → H' l = some (.tup ((plusR p x y m).map V.int)) → Q (.ref l) H'
theorem ok__law_plus (T : Top K mg) : Ok P w K mg base 1 "_law_plus" ["_law_p", "_law_one", "_law_other", "_law_many"] (sp_plus K) := by
  refine T.d__law_plus.ok sc__law_plus (fun vs H Q E h => ?_) (fun f cdv A outer s H vs Q E hr h => ?_)
  · obtain ⟨a, b, x, y, p, m, rfl, _⟩ := h
    rfl
  · obtain ⟨a, b, x, y, p, m, rfl, hA, hB, hz, hp, hm1, hm2, q⟩ := h
    refine ⟨_, ((pss_one (ps_ret (pe_callTy call_tuple_of (by rfl) T.b_tuple (by decide +kernel) (pa_cons (pe_lc (own := [("_law_left", 4), ("_law_right", 5)]) (g := gTup K 2 (gCons (gName 4) (gCons (gName 5) gNil))) (by rfl) sc__law_plus.nd (RZ.pi_zipA (by rfl) T.b_zip (pa_cons (pv 1) (pa_cons (pv 2) pa_nil))) (blkOk_by (own := [("_law_left", 4), ("_law_right", 5)]) (N := N__law_plus) (sc := defScope s__law_plus) (by decide +kernel)) (fun _ _ _ _ _ => (pg_tup (by rfl) (pgs_cons (pg_name (i := 4) sc__law_plus.nd rfl (.inl rfl)) (pgs_cons (pg_name (i := 5) sc__law_plus.nd rfl (.inl rfl)) pgs_nil)))) (fun _ _ _ _ _ => pts_nil) (fun _ _ _ _ _ => (pe_op op_mod (pe_op op_add (pv 4) (pe_op op_mul (pv 3) (pv 5))) (pv 0)))) pa_nil))))), ?_⟩
    refine ⟨.ref a, rfl, .ref b, rfl, a, b, _, _, rfl, .inr ⟨hA, hB, lc_zipI (fun u v => (u + m * v) % p) hA hB hz (fun _ _ => rfl) (fun u v H' Q' _ _ _ hQ => ?_) (fun D H' sm nD eD => ?_)⟩⟩
    · exact ⟨.int u, rfl, .int m, rfl, .int v, rfl, m, v, rfl, rfl, .inl ⟨by omega, by omega⟩, _, _, rfl, rfl, .int p, rfl, _, p, rfl, rfl, hp, hQ⟩
    · refine ⟨D, _, rfl, .inl ⟨.inl (.inl eD), fun l nl => ?_⟩⟩
      exact q _ l (sm.trans (same_upd nl)) (sm.free nl) upd_same

theorem plus_len {p : Int} {x y : List Int} {m : Int} (h : x.length = y.length) : (plusR p x y m).length = x.length := by
  unfold plusR
  rw [List.length_zipWith]
  omega
theorem plus_ok {p : Int} {x y : List Int} {m : Int} (hp : 0 < p) : RowOk p (plusR p x y m) := by
  intro z hz
  unfold plusR at hz
  rw [List.mem_iff_getElem?] at hz
  obtain ⟨i, hi⟩ := hz
  rw [List.getElem?_zipWith] at hi
  split at hi
  · cases Option.some.inj hi
    exact ⟨Int.emod_nonneg _ (by omega), Int.emod_lt_of_pos _ hp⟩
  · cases hi
def sp_mixed (K : PySem.W.Frag) : Sp := fun vs H Q _ => ∃ (d c o : Addr) (t p n : Int) (ws : List V) (rs : List (List Int)), vs = [.ref d, .int p, .int n, .ref o] ∧ Deck H d c t ∧ t ≤ 990000 ∧ 2 ≤ p ∧ p ≤ 1000 ∧ 1 ≤ n ∧ n ≤ 100 ∧ H o = some (.lst ws) ∧ ¬ Bad d c o ∧ DpAll K H ws (rs.map rowD) ∧ rs.length ≤ 100 ∧ (∀ r ∈ rs, (r.length : Int) = n) ∧
  ∀ H' a r t', Kept d c H H' → Deck H' d c t' → t' ≤ t + rs.length → SqT K H' a (r.map V.int) → (r.length : Int) = n → RowOk p r → Q (.ref a) H'
theorem ok__law_mixed (T : Top K mg) : Ok P w K mg base 2 "_law_mixed" ["_law_deck_here", "_law_p", "_law_n", "_law_rows_here"] (sp_mixed K) := by
  have O__law_draw := ok__law_draw (P := P) (w := w) (base := base) T
  have O__law_plus := ok__law_plus (P := P) (w := w) (base := base) T
  refine T.d__law_mixed.ok sc__law_mixed (fun vs H Q E h => ?_) (fun f cdv A outer s H vs Q E hr h => ?_)
  · obtain ⟨d, c, o, t, p, n, ws, rs, rfl, _⟩ := h
    rfl
  · obtain ⟨d, c, o, t, p, n, ws, rs, rfl, D0, ht, hp1, hp2, hn1, hn2, eo, bo, hR, hl, hln, q⟩ := h
    refine ⟨_, ((pss_cons (ps_set (i := 4) sc__law_mixed.nd rfl (.inl rfl) (pe_op op_repB (pe_tup (pa_cons pe_int pa_nil)) (pv 2)))
      (pss_cons (ps_for PassesOwn.never (by rfl) (pi_list (pv 3)) (pg_name (i := 5) sc__law_mixed.nd rfl (.inl rfl))
        (pss_one (ps_set (i := 4) sc__law_mixed.nd rfl (.inl rfl) (pe_callO O__law_plus (hr.mono (by omega)) (by rfl) (pa_cons (pv 1) (pa_cons (pv 4) (pa_cons (pv 5) (pa_cons (pe_callO O__law_draw (hr.mono (by omega)) (by rfl) (pa_cons (pv 0) (pa_cons (pv 1) pa_nil))) pa_nil))))))))
      (pss_one (ps_ret (pv 4)))))), ?_⟩
    refine ⟨sz1000 (by decide : (1 : Nat) ≤ 1000), fun z nz => ?_⟩
    generalize h1 : upd H z _ = H1
    obtain ⟨s1, e1⟩ := new_of h1 nz
    have e1 : H1 z = some (.tup ([0].map V.int)) := e1
    have lw : ws.length = rs.length := by
      have := dpAll_len hR
      rw [List.length_map] at this
      exact this
    refine ⟨.int n, rfl, z, n, _, rfl, rfl, .inl (.inl e1), List.cons_ne_nil _ _, hn1, by omega, by decide, fun y H2 s2 hy => ?_⟩
    have hy : SqT K H2 y ((List.replicate n.toNat (0 : Int)).map V.int) := (rep_int n.toNat 0) ▸ hy
    have D2 := D0.same (s1.trans s2)
    have eo2 := s2 _ _ (s1 _ _ eo)
    have hR2 := dpAll_same (s1.trans s2) _ _ hR
    refine ⟨.ref o, rfl, o, rfl, ⟨_, .inl (.inl eo2)⟩, for_list (xs := ws) (fun i σ H' => Kept d c H2 H' ∧ ∃ (t' : Int) (y : Addr) (r : List Int) (y5 : Option V), Deck H' d c t' ∧ t' ≤ t + i ∧ SqT K H' y (r.map V.int) ∧ (r.length : Int) = n ∧ RowOk p r ∧ σ = [some (.ref d), some (.int p), some (.int n), some (.ref o), some (.ref y), y5]) ⟨Kept.refl _ _ _, t, y, _, none, D2, by omega, hy, by rw [List.length_replicate]; omega, fun x hx => ?_, rfl⟩ (fun i σ H' _ hW => ?_) (fun i x σ H' hx hW => ?_) (fun σ H' hW => ?_)⟩
    · have := List.eq_of_mem_replicate hx
      omega
    · exact .inl (.inl (hW.1 _ _ eo2 (fun z => bo (.inl z)) (fun z => bo (.inr z))))
    · obtain ⟨k', t', y1, r, y5, D', ht', hy1, hr1, ro, rfl⟩ := hW
      obtain ⟨b, r2, rfl, g2, m2, hb⟩ := dpAll_row hR2 hx
      have hi : i < rs.length := (List.getElem?_eq_some_iff.mp g2).1
      have hb' : SqT K H' b (r2.map V.int) := Kept.tup D2 k' hb
      refine ⟨.int p, rfl, .ref y1, rfl, .ref b, rfl, .ref d, rfl, .int p, rfl, d, c, t', p, rfl, D', by omega, by omega, by omega, fun H3 m k3 D3 m0 m1 => ?_⟩
      refine ⟨y1, b, r, r2, p, m, rfl, Kept.tup D' k3 hy1, Kept.tup D' k3 hb', by omega, by omega, by omega, by omega, fun H4 l s4 nl e4 => ?_⟩
      have e : r.length = r2.length := by
        have := hln r2 m2
        omega
      exact ⟨fun b o h n1 n2 => s4 b o (k3 b o (k' b o h n1 n2) n1 n2), t' + 1, l, plusR p r r2 m, _, D3.same s4, by omega, .inl (.inl e4), by rw [plus_len e]; exact hr1, plus_ok (by omega), rfl⟩
    · obtain ⟨k', t', y1, r, y5, D', ht', hy1, hr1, ro, rfl⟩ := hW
      exact ⟨.ref y1, rfl, q H' y1 r t' (fun b o h n1 n2 => k' b o (s2 b o (s1 b o h)) n1 n2) D' (by omega) hy1 hr1 ro⟩

def sp_rows (K : PySem.W.Frag) : Sp := fun vs H Q _ => ∃ (d c : Addr) (t p n u : Int), vs = [.ref d, .int p, .int n, .int u] ∧ Deck H d c t ∧ t ≤ 900000 ∧ 2 ≤ p ∧ p ≤ 1000 ∧ 1 ≤ n ∧ n ≤ 10 ∧ 0 ≤ u ∧ u ≤ 20 ∧
  ∀ (H' : Hp) (a : Addr) (ws : List V) (rs : List (List Int)) (t' : Int), Kept d c H H' → Deck H' d c t' → t' ≤ t + 1000 → H' a = some (.tup ws) → DpAll K H' ws (rs.map rowD) → (rs.length : Int) ≤ u → (∀ r ∈ rs, (r.length : Int) = n ∧ RowOk p r) → Q (.ref a) H'
theorem ok__law_rows (T : Top K mg) : Ok P w K mg base 3 "_law_rows" ["_law_deck_here", "_law_p", "_law_n", "_law_upto"] (sp_rows K) := by
  have O__law_draw := ok__law_draw (P := P) (w := w) (base := base) T
  have O__law_row := ok__law_row (P := P) (w := w) (base := base) T
  have O__law_mixed := ok__law_mixed (P := P) (w := w) (base := base) T
  refine T.d__law_rows.ok sc__law_rows (fun vs H Q E h => ?_) (fun f cdv A outer s H vs Q E hr h => ?_)
  · obtain ⟨d, c, t, p, n, u, rfl, _⟩ := h
    rfl
  · obtain ⟨d, c, t, p, n, u, rfl, D0, ht, hp1, hp2, hn1, hn2, hu1, hu2, q⟩ := h
    refine ⟨_, ((pss_cons (ps_set (i := 4) sc__law_rows.nd rfl (.inl rfl) (pe_lst pa_nil))
      (pss_cons (ps_for PassesOwn.never (by rfl) (pi_range1 (by rfl) T.b_range (pa_cons (pe_callO O__law_draw (hr.mono (by omega)) (by rfl) (pa_cons (pv 0) (pa_cons (pe_op op_add (pv 3) pe_int) pa_nil))) pa_nil)) (pg_name (i := 5) sc__law_rows.nd rfl (.inl rfl))
        (pss_cons (ps_set (i := 6) sc__law_rows.nd rfl (.inl rfl) (pe_callO O__law_draw (hr.mono (by omega)) (by rfl) (pa_cons (pv 0) (pa_cons pe_int pa_nil))))
        (pss_one (ps_if (PW.pt (pw_and (pt_cmpR op_eq (pv 6) pe_int (nomark _)) (pw_and1 (pt_cmpR (op_neD hr.units) (pv 4) (pe_lst pa_nil) (nomark _)))))
          (pss_one (ps_expr (pe_bm PySem.F.plainAttrs_list PySem.F.slot_list_append PySem.F.type_list_append mt_append (pv 4) (pa_cons (pe_ix ix_list (pv 4) (pe_callO O__law_draw (hr.mono (by omega)) (by rfl) (pa_cons (pv 0) (pa_cons (pe_callB call_len_seq (by rfl) T.b_len (by decide +kernel) (pa_cons (pv 4) pa_nil)) pa_nil))) (fun _ _ => rfl)) pa_nil))))
          (pss_one (ps_if (pt_cmpR op_eq (pv 6) pe_int (nomark _))
            (pss_one (ps_expr (pe_bm PySem.F.plainAttrs_list PySem.F.slot_list_append PySem.F.type_list_append mt_append (pv 4) (pa_cons (pe_callO O__law_mixed (hr.mono (by omega)) (by rfl) (pa_cons (pv 0) (pa_cons (pv 1) (pa_cons (pv 2) (pa_cons (pv 4) pa_nil))))) pa_nil))))
            (pss_one (ps_expr (pe_bm PySem.F.plainAttrs_list PySem.F.slot_list_append PySem.F.type_list_append mt_append (pv 4) (pa_cons (pe_callO O__law_row (hr.mono (by omega)) (by rfl) (pa_cons (pv 0) (pa_cons (pv 1) (pa_cons (pv 2) pa_nil)))) pa_nil))))))))))
      (pss_one (ps_ret (pe_callTy call_tuple_of (by rfl) T.b_tuple (by decide +kernel) (pa_cons (pv 4) pa_nil))))))), ?_⟩
    refine ⟨Nat.zero_le _, fun o no => ?_⟩
    generalize h1 : upd H o _ = H1
    obtain ⟨s1, e1⟩ := new_of h1 no
    have bo := D0.fresh no
    have D1 := D0.same s1
    refine ⟨.ref d, rfl, .int u, rfl, u, 1, rfl, rfl, d, c, t, u + 1, rfl, D1, by omega, by omega, by omega, fun H2 z k2 D2 z0 z1 => ?_⟩
    have e2 := k2 _ _ e1 (fun z => bo (.inl z)) (fun z => bo (.inr z))
    refine ⟨z, rfl, by omega, by omega, for_range (lo := 0) (n := z.toNat) (fun i σ H' => Kept d c H H' ∧ ∃ (t' : Int) (ws : List V) (rs : List (List Int)) (y5 y6 : Option V), Deck H' d c t' ∧ t' ≤ t + 1 + 21 * i ∧ H' o = some (.lst ws) ∧ DpAll K H' ws (rs.map rowD) ∧ rs.length = i ∧ (∀ r ∈ rs, (r.length : Int) = n ∧ RowOk p r) ∧ σ = [some (.ref d), some (.int p), some (.int n), some (.int u), some (.ref o), y5, y6]) ⟨fun b o h n1 n2 => k2 b o (s1 b o h) n1 n2, t + 1, [], [], none, none, D2, by omega, e2, .nil, rfl, fun r hr => (nomatch hr), rfl⟩ (fun i σ H' hi hW => ?_) (fun σ H' hW => ?_)⟩
    · obtain ⟨k', t', ws, rs, y5, y6, D', ht', eo, hR, ln, hro, rfl⟩ := hW
      have lw : ws.length = rs.length := by
        have := dpAll_len hR
        rw [List.length_map] at this
        exact this
      -- one row more
      have next : ∀ (H4 : Hp) (t4 : Int) (v : V) (r : List Int) (y5 y6 : Option V), Kept d c H' H4 → Deck H4 d c t4 → t4 ≤ t' + 21 → Dp K H4 v (rowD r) → (r.length : Int) = n → RowOk p r →
          (H4 o = some (.lst ws) ∧ ws.length < sizeLine ∧ (fun (σ : L2.St) (H' : Hp) => Kept d c H H' ∧ ∃ (t' : Int) (ws : List V) (rs : List (List Int)) (y5 y6 : Option V), Deck H' d c t' ∧ t' ≤ t + 1 + 21 * ((i + 1 : Nat) : Int) ∧ H' o = some (.lst ws) ∧ DpAll K H' ws (rs.map rowD) ∧ rs.length = i + 1 ∧ (∀ r ∈ rs, (r.length : Int) = n ∧ RowOk p r) ∧ σ = [some (.ref d), some (.int p), some (.int n), some (.int u), some (.ref o), y5, y6]) [some (.ref d), some (.int p), some (.int n), some (.int u), some (.ref o), y5, y6] (upd H4 o (.lst (ws ++ [v])))) := by
        intro H4 t4 v r y5 y6 k4 D4 h4 hv hr1 hr2
        have eo4 := k4 _ _ eo (fun z => bo (.inl z)) (fun z => bo (.inr z))
        have tk : Tk H' (upd H4 o (.lst (ws ++ [v]))) := (Tk.kept D' k4).mut eo4
        have tk2 : Tk H4 (upd H4 o (.lst (ws ++ [v]))) := (Tk.refl H4).mut eo4
        refine ⟨eo4, by rw [lw]; exact small1000 (by omega), fun b x h n1 n2 => ?_, t4, ws ++ [v], rs ++ [r], y5, y6, ?_, by omega, upd_same, ?_, by rw [List.length_append, ln]; rfl, fun r' h' => ?_, rfl⟩
        · rw [upd_ne (ne_of_none h no)]
          exact k4 b x (k' b x h n1 n2) n1 n2
        · obtain ⟨hd, ⟨cells, h1, h2⟩, n, t0⟩ := D4
          exact ⟨by rw [upd_ne (fun z => bo (.inl z.symm))]; exact hd, ⟨cells, by rw [upd_ne (fun z => bo (.inr z.symm))]; exact h1, h2⟩, n, t0⟩
        · rw [List.map_append]
          exact dpAll_append (dpAll_tk tk _ _ (noL_rows rs) hR) (.cons (dp_tk tk2 _ _ (noL_row r) hv) .nil)
        · rcases List.mem_append.mp h' with h | h
          · exact hro r' h
          · have : r' = r := by simpa using h
            subst this
            exact ⟨hr1, hr2⟩
      refine ⟨.ref d, rfl, d, c, t', 6, rfl, D', by omega, by decide, by decide, fun H3 w3 k3 D3 w0 w1 => ?_⟩
      have eo3 := k3 _ _ eo (fun z => bo (.inl z)) (fun z => bo (.inr z))
      have hR3 := dpAll_tk (Tk.kept D' k3) _ _ (noL_rows rs) hR
      -- what the other two ways do
      have mix : ∀ (X : Prop), X → X := fun _ h => h
      refine ⟨.int w3, rfl, rfl, _, rfl, ite2 (fun e => ?_) (fun e => ?_)⟩
      · refine ⟨.ref o, rfl, Nat.zero_le _, fun l nl => ?_⟩
        generalize h4 : upd H3 l _ = H4
        obtain ⟨s4, e4⟩ := new_of h4 nl
        have D4 := D3.same s4
        have k4 : Kept d c H' H4 := fun b x h n1 n2 => s4 b x (k3 b x h n1 n2)
        have eo4 := s4 _ _ eo3
        have hR4 := dpAll_same s4 _ _ hR3
        refine ⟨.list (rs.map rowD), .list [], .lst (.inl (.inl eo4)) hR4, .lst (.inl (.inl e4)) .nil, shaped_lrows rs, shaped_lrows [], _, rfl, ?_⟩
        rw [eqv_nil]
        by_cases hne : rs.map rowD = []
        · rw [decide_eq_true hne]
          have ew : w3 = 0 := V.int.inj (of_decide_eq_true e)
          subst ew
          refine iteF ⟨.int 0, rfl, rfl, _, rfl, iteF ?_⟩
          refine ⟨.ref o, rfl, .inl ⟨rfl, _, .inl (.inl eo4)⟩, .ref d, rfl, .int p, rfl, .int n, rfl, d, c, t' + 1, p, n, rfl, D4, by omega, hp1, hp2, by omega, by omega, fun H5 a r t5 k5 D5 h5 na ea hr1 hr2 => ?_⟩
          obtain ⟨g1, g2, g3⟩ := next H5 t5 (.ref a) r _ _ (k4.trans k5) D5 (by omega) (row_dp (.inl (.inl ea))) hr1 hr2
          exact ⟨o, _, _, rfl, rfl, g1, g2, g3⟩
        · rw [decide_eq_false hne]
          have pos : 0 < ws.length := by
            rw [lw]
            cases rs with
            | nil => exact absurd rfl hne
            | cons a b => exact Nat.succ_pos _
          refine iteT ⟨.ref o, rfl, .inl ⟨rfl, _, .inl (.inl eo4)⟩, .ref o, rfl, .ref d, rfl, .ref o, rfl, o, ws, rfl, .inl (.inl (.inl eo4)), d, c, t' + 1, _, rfl, D4, by omega, by omega, by omega, fun H5 j k5 D5 j0 j1 => ?_⟩
          have eo5 := k5 _ _ eo4 (fun z => bo (.inl z)) (fun z => bo (.inr z))
          have hj : j.toNat < ws.length := by omega
          have gv : ws[j.toNat]? = some ws[j.toNat] := List.getElem?_eq_getElem hj
          obtain ⟨b, r, eb, gr, mr, hb⟩ := dpAll_row hR4 gv
          have hb5 := Kept.tup D4 k5 hb
          have hdp : Dp K H5 ws[j.toNat] (rowD r) := by
            rw [eb]
            exact row_dp hb5
          obtain ⟨g1, g2, g3⟩ := next H5 (t' + 1 + 1) ws[j.toNat] r _ _ (k4.trans k5) D5 (by omega) hdp (hro r mr).1 (hro r mr).2
          exact ⟨o, _, j, _, rfl, rfl, .inl (.inl eo5), at_of (j := j.toNat) (by omega) gv, o, _, _, rfl, rfl, g1, g2, g3⟩
      · refine ⟨.int w3, rfl, rfl, _, rfl, ite2 (fun e2 => ?_) (fun e2 => ?_)⟩
        · refine ⟨.ref o, rfl, .inl ⟨rfl, _, .inl (.inl eo3)⟩, .ref d, rfl, .int p, rfl, .int n, rfl, .ref o, rfl, d, c, o, t' + 1, p, n, ws, rs, rfl, D3, by omega, hp1, hp2, hn1, by omega, eo3, bo, hR3, by omega, fun r h => (hro r h).1, fun H5 a r t5 k5 D5 h5 ea hr1 hr2 => ?_⟩
          obtain ⟨g1, g2, g3⟩ := next H5 t5 (.ref a) r _ _ (k3.trans k5) D5 (by omega) (row_dp ea) hr1 hr2
          exact ⟨o, _, _, rfl, rfl, g1, g2, g3⟩
        · refine ⟨.ref o, rfl, .inl ⟨rfl, _, .inl (.inl eo3)⟩, .ref d, rfl, .int p, rfl, .int n, rfl, d, c, t' + 1, p, n, rfl, D3, by omega, hp1, hp2, by omega, by omega, fun H5 a r t5 k5 D5 h5 na ea hr1 hr2 => ?_⟩
          obtain ⟨g1, g2, g3⟩ := next H5 t5 (.ref a) r _ _ (k3.trans k5) D5 (by omega) (row_dp (.inl (.inl ea))) hr1 hr2
          exact ⟨o, _, _, rfl, rfl, g1, g2, g3⟩
    · obtain ⟨k', t', ws, rs, y5, y6, D', ht', eo, hR, ln, hro, rfl⟩ := hW
      refine ⟨.ref o, rfl, o, _, rfl, .inl ⟨.inl (.inl eo), fun l nl => ?_⟩⟩
      generalize h2 : upd H' l _ = H2
      obtain ⟨s2, e2⟩ := new_of h2 nl
      exact q H2 l ws rs t' (fun b o h n1 n2 => s2 b o (k' b o h n1 n2)) (D'.same s2) (by omega) e2 (dpAll_same s2 _ _ hR) (by omega) hro

end
end OC

set_option Elab.async false
set_option linter.all false
set_option maxRecDepth 100000
namespace OC
open PySem PySem.Spec PyProof.Rows L2
section
variable {P : Program} {w : World} {K : PySem.W.Frag} {mg : Str → Option Value} {base : Heap}
def addR (p : Int) (x y : List Int) : List Int := List.zipWith (fun a b => (a + b) % p) x y
def timesR (p a : Int) (x : List Int) : List Int := x.map fun r => a * r % p
def worthR (p : Int) (x y : List Int) : Int := (List.zipWith (fun a b => a * b) x y).sum % p
def madeR (p : Int) (z : List Int) (l : List (List Int × Int)) : List Int := l.foldl (fun acc rf => plusR p acc rf.1 rf.2) z
theorem plus1 (p : Int) : ∀ x y : List Int, plusR p x y 1 = addR p x y
  | [], _ => rfl
  | _ :: _, [] => rfl
  | a :: x, b :: y => by
    have ih := plus1 p x y
    unfold plusR addR at ih ⊢
    rw [List.zipWith_cons_cons, List.zipWith_cons_cons, ih, Int.one_mul]
theorem plus_times (p m : Int) : ∀ x : List Int, plusR p x x (m - 1) = timesR p m x
  | [] => rfl
  | a :: x => by
    have ih := plus_times p m x
    unfold plusR timesR at ih ⊢
    rw [List.zipWith_cons_cons, ih, List.map_cons, show a + (m - 1) * a = m * a by grind]
theorem add_times (p f : Int) : ∀ x y : List Int, addR p x (timesR p f y) = plusR p x y f
  | [], _ => rfl
  | _ :: _, [] => rfl
  | a :: x, b :: y => by
    have ih := add_times p f x y
    unfold plusR addR timesR at ih ⊢
    rw [List.map_cons, List.zipWith_cons_cons, List.zipWith_cons_cons, ih, Int.add_emod_emod]
theorem worth_add (p : Int) : ∀ x y z : List Int, x.length = y.length → worthR p (addR p x y) z = (worthR p x z + worthR p y z) % p
  | [], [], _, _ => by
    unfold worthR addR
    simp
  | [], _ :: _, _, e => by cases e
  | _ :: _, [], _, e => by cases e
  | a :: x, b :: y, [], _ => by
    unfold worthR addR
    simp
  | a :: x, b :: y, c :: z, e => by
    have ih := worth_add p x y z (Nat.succ.inj e)
    unfold worthR addR at ih ⊢
    rw [List.zipWith_cons_cons, List.zipWith_cons_cons, List.zipWith_cons_cons, List.zipWith_cons_cons, List.sum_cons, List.sum_cons, List.sum_cons]
    rw [Int.emod_add_emod, Int.add_emod_emod] at ih
    rw [Int.emod_add_emod, Int.add_emod_emod]
    rw [Int.add_emod, ih, show (a + b) % p * c % p = (a + b) * c % p by rw [Int.mul_emod, Int.emod_emod, ← Int.mul_emod], ← Int.add_emod]
    congr 1
    grind
theorem worth_times (p m : Int) : ∀ x z : List Int, worthR p (timesR p m x) z = m * worthR p x z % p
  | [], _ => by
    unfold worthR timesR
    simp
  | _ :: _, [] => by
    unfold worthR timesR
    simp
  | a :: x, c :: z => by
    have ih := worth_times p m x z
    unfold worthR timesR at ih ⊢
    rw [List.map_cons, List.zipWith_cons_cons, List.zipWith_cons_cons, List.sum_cons, List.sum_cons]
    rw [Int.add_emod, ih, Int.mul_emod, Int.emod_emod, ← Int.mul_emod, Int.add_emod_emod, Int.emod_add_emod]
    rw [show m * ((a * c + (List.zipWith (fun a b => a * b) x z).sum) % p) % p = m * (a * c + (List.zipWith (fun a b => a * b) x z).sum) % p by rw [Int.mul_emod, Int.emod_emod, ← Int.mul_emod]]
    rw [Int.add_emod, show m * ((List.zipWith (fun a b => a * b) x z).sum % p) % p = m * (List.zipWith (fun a b => a * b) x z).sum % p by rw [Int.mul_emod, Int.emod_emod, ← Int.mul_emod], ← Int.add_emod]
    congr 1
    grind
theorem add_len {p : Int} {x y : List Int} (h : x.length = y.length) : (addR p x y).length = x.length := by
  unfold addR
  rw [List.length_zipWith]
  omega
theorem times_len {p m : Int} {x : List Int} : (timesR p m x).length = x.length := by
  unfold timesR
  rw [List.length_map]
theorem add_ok {p : Int} {x y : List Int} (hp : 0 < p) : RowOk p (addR p x y) := by
  rw [← plus1]
  exact plus_ok hp
theorem times_ok {p m : Int} {x : List Int} (hp : 0 < p) : RowOk p (timesR p m x) := by
  rw [← plus_times]
  exact plus_ok hp
theorem worth_bd {p : Int} {x y : List Int} (hp : 0 < p) : 0 ≤ worthR p x y ∧ worthR p x y < p := ⟨Int.emod_nonneg _ (by omega), Int.emod_lt_of_pos _ hp⟩

def sp_added (K : PySem.W.Frag) : Sp := fun vs H Q _ => ∃ (a b : Addr) (x y : List Int) (p : Int), vs = [.int p, .ref a, .ref b] ∧ SqT K H a (x.map V.int) ∧ SqT K H b (y.map V.int) ∧ x.length ≤ 1000 ∧ 0 < p ∧
  ∀ H' l, Same H H' → H l = none → H' l = some (.tup ((addR p x y).map V.int)) → Q (.ref l) H'
theorem ok_added (T : Top K mg) : Ok P w K mg base 1 "added" ["p", "one", "other"] (sp_added K) := by
  refine T.d_added.ok sc_added (fun vs H Q E h => ?_) (fun f cdv A outer s H vs Q E hr h => ?_)
  · obtain ⟨a, b, x, y, p, rfl, _⟩ := h
    rfl
  · obtain ⟨a, b, x, y, p, rfl, hA, hB, hz, hp, q⟩ := h
    refine ⟨_, ((pss_one (ps_ret (pe_callTy call_tuple_of (by rfl) T.b_tuple (by decide +kernel) (pa_cons (pe_lc (own := [("a", 3), ("b", 4)]) (g := gTup K 2 (gCons (gName 3) (gCons (gName 4) gNil))) (by rfl) sc_added.nd (RZ.pi_zipA (by rfl) T.b_zip (pa_cons (pv 1) (pa_cons (pv 2) pa_nil))) (blkOk_by (own := [("a", 3), ("b", 4)]) (N := N_added) (sc := defScope s_added) (by decide +kernel)) (fun _ _ _ _ _ => (pg_tup (by rfl) (pgs_cons (pg_name (i := 3) sc_added.nd rfl (.inl rfl)) (pgs_cons (pg_name (i := 4) sc_added.nd rfl (.inl rfl)) pgs_nil)))) (fun _ _ _ _ _ => pts_nil) (fun _ _ _ _ _ => (pe_op op_mod (pe_op op_add (pv 3) (pv 4)) (pv 0)))) pa_nil))))), ?_⟩
    refine ⟨.ref a, rfl, .ref b, rfl, a, b, _, _, rfl, .inr ⟨hA, hB, lc_zipI (fun u v => (u + v) % p) hA hB hz (fun _ _ => rfl) (fun u v H' Q' _ _ _ hQ => ?_) (fun D H' sm nD eD => ?_)⟩⟩
    · exact ⟨.int u, rfl, .int v, rfl, u, v, rfl, rfl, .int p, rfl, _, p, rfl, rfl, hp, hQ⟩
    · refine ⟨D, _, rfl, .inl ⟨.inl (.inl eD), fun l nl => ?_⟩⟩
      exact q _ l (sm.trans (same_upd nl)) (sm.free nl) upd_same

def sp_times (K : PySem.W.Frag) : Sp := fun vs H Q _ => ∃ (b : Addr) (x : List Int) (p m : Int), vs = [.int p, .int m, .ref b] ∧ SqT K H b (x.map V.int) ∧ x.length ≤ 1000 ∧ 0 < p ∧ -1000000 ≤ m ∧ m ≤ 1000000 ∧
  ∀ H' l, Same H H' → H l = none → H' l = some (.tup ((timesR p m x).map V.int)) → Q (.ref l) H'
theorem ok_times (T : Top K mg) : Ok P w K mg base 1 "times" ["p", "a", "row"] (sp_times K) := by
  refine T.d_times.ok sc_times (fun vs H Q E h => ?_) (fun f cdv A outer s H vs Q E hr h => ?_)
  · obtain ⟨b, x, p, m, rfl, _⟩ := h
    rfl
  · obtain ⟨b, x, p, m, rfl, hB, hz, hp, hm1, hm2, q⟩ := h
    refine ⟨_, ((pss_one (ps_ret (pe_callTy call_tuple_of (by rfl) T.b_tuple (by decide +kernel) (pa_cons (pe_lc (own := [("rest", 3)]) (g := gName 3) (by rfl) sc_times.nd (pi_tup (pv 2)) (blkOk_by (own := [("rest", 3)]) (N := N_times) (sc := defScope s_times) (by decide +kernel)) (fun _ _ _ _ _ => (pg_name (i := 3) sc_times.nd rfl (.inl rfl))) (fun _ _ _ _ _ => pts_nil) (fun _ _ _ _ _ => (pe_op op_mod (pe_op op_mul (pv 1) (pv 3)) (pv 0)))) pa_nil))))), ?_⟩
    refine ⟨.ref b, rfl, b, rfl, ⟨_, hB⟩, lc_tupI (fun v => m * v % p) hB hz (fun _ => rfl) (fun v H' Q' _ _ hQ => ?_) (fun D H' sm nD eD => ?_)⟩
    · exact ⟨.int m, rfl, .int v, rfl, m, v, rfl, rfl, .inl ⟨by omega, by omega⟩, .int p, rfl, _, p, rfl, rfl, hp, hQ⟩
    · refine ⟨D, _, rfl, .inl ⟨.inl (.inl eD), fun l nl => ?_⟩⟩
      exact q _ l (sm.trans (same_upd nl)) (sm.free nl) upd_same

def sp_worth (K : PySem.W.Frag) : Sp := fun vs H Q _ => ∃ (a b : Addr) (x y : List Int) (p : Int), vs = [.int p, .ref a, .ref b] ∧ SqT K H a (x.map V.int) ∧ SqT K H b (y.map V.int) ∧ x.length ≤ 1000 ∧ 0 < p ∧ p ≤ 1000000 ∧ RowOk p x ∧
  ∀ H', Same H H' → Q (.int (worthR p x y)) H'
theorem ok_worth (T : Top K mg) : Ok P w K mg base 1 "worth" ["p", "row", "world"] (sp_worth K) := by
  refine T.d_worth.ok sc_worth (fun vs H Q E h => ?_) (fun f cdv A outer s H vs Q E hr h => ?_)
  · obtain ⟨a, b, x, y, p, rfl, _⟩ := h
    rfl
  · obtain ⟨a, b, x, y, p, rfl, hA, hB, hz, hp, hp2, ro, q⟩ := h
    refine ⟨_, ((pss_one (ps_ret (pe_op op_mod (pe_callB (cr_sum (by rfl)) (by rfl) T.b_sum (by decide +kernel) (pa_cons (pe_lc (own := [("a", 3), ("b", 4)]) (g := gTup K 2 (gCons (gName 3) (gCons (gName 4) gNil))) (by rfl) sc_worth.nd (RZ.pi_zipA (by rfl) T.b_zip (pa_cons (pv 1) (pa_cons (pv 2) pa_nil))) (blkOk_by (own := [("a", 3), ("b", 4)]) (N := N_worth) (sc := defScope s_worth) (by decide +kernel)) (fun _ _ _ _ _ => (pg_tup (by rfl) (pgs_cons (pg_name (i := 3) sc_worth.nd rfl (.inl rfl)) (pgs_cons (pg_name (i := 4) sc_worth.nd rfl (.inl rfl)) pgs_nil)))) (fun _ _ _ _ _ => pts_nil) (fun _ _ _ _ _ => (pe_op op_mul (pv 3) (pv 4)))) pa_nil)) (pv 0))))), ?_⟩
    refine ⟨.ref a, rfl, .ref b, rfl, a, b, _, _, rfl, .inr ⟨hA, hB, lc_zipI (fun u v => u * v) hA hB hz (fun _ _ => rfl) (fun u v H' Q' hu _ _ hQ => ?_) (fun D H' sm nD eD => ?_)⟩⟩
    · have := ro u hu
      exact ⟨.int u, rfl, .int v, rfl, u, v, rfl, rfl, .inl ⟨by omega, by omega⟩, hQ⟩
    · exact ⟨D, _, rfl, .inl (.inl eD), .int p, rfl, _, p, rfl, rfl, hp, q _ sm⟩

def sp_made (K : PySem.W.Frag) : Sp := fun vs H Q _ => ∃ (a b : Addr) (ws : List V) (rs : List (List Int)) (fs : List Int) (p n : Int), vs = [.int p, .int n, .ref a, .ref b] ∧ SqT K H a ws ∧ DpAll K H ws (rs.map rowD) ∧ SqT K H b (fs.map V.int) ∧ rs.length = fs.length ∧ 0 < p ∧ 1 ≤ n ∧ n ≤ 1000 ∧ (∀ r ∈ rs, (r.length : Int) = n) ∧ (∀ f ∈ fs, 0 ≤ f ∧ f ≤ 1000000) ∧
  ∀ H' l, Same H H' → SqT K H' l ((madeR p (List.replicate n.toNat 0) (rs.zip fs)).map V.int) → Q (.ref l) H'
theorem made_len (p : Int) (n : Nat) : ∀ (l : List (List Int × Int)) (z : List Int), z.length = n → (∀ x ∈ l, x.1.length = n) → (madeR p z l).length = n
  | [], z, hz, _ => hz
  | x :: l, z, hz, h => by
    refine made_len p n l _ ?_ fun y hy => h y (List.mem_cons_of_mem _ hy)
    rw [plus_len (by rw [hz, h x List.mem_cons_self])]
    exact hz
theorem made_ok {p : Int} (hp : 0 < p) : ∀ (l : List (List Int × Int)) (z : List Int), RowOk p z → RowOk p (madeR p z l)
  | [], z, hz => hz
  | x :: l, z, hz => made_ok hp l _ (plus_ok hp)
theorem made_take {p : Int} {z : List Int} {l : List (List Int × Int)} {i : Nat} {x : List Int × Int} (h : l[i]? = some x) : madeR p z (l.take (i + 1)) = plusR p (madeR p z (l.take i)) x.1 x.2 := by
  unfold madeR
  rw [List.take_add_one, h, List.foldl_append]
  rfl
theorem nought_ok {p : Int} (hp : 0 < p) (n : Nat) : RowOk p (List.replicate n 0) := fun x hx => by
  have := List.eq_of_mem_replicate hx
  omega
theorem ok_made_of (T : Top K mg) : Ok P w K mg base 2 "made_of" ["p", "n", "rows", "factors"] (sp_made K) := by
  have O_added := ok_added (P := P) (w := w) (base := base) T
  have O_times := ok_times (P := P) (w := w) (base := base) T
  refine T.d_made_of.ok sc_made_of (fun vs H Q E h => ?_) (fun f cdv A outer s H vs Q E hr h => ?_)
  · obtain ⟨a, b, ws, rs, fs, p, n, rfl, _⟩ := h
    rfl
  · obtain ⟨a, b, ws, rs, fs, p, n, rfl, hA, hR, hB, hl, hp, hn1, hn2, hln, hf, q⟩ := h
    refine ⟨_, ((pss_cons (ps_set (i := 4) sc_made_of.nd rfl (.inl rfl) (pe_op op_repB (pe_tup (pa_cons pe_int pa_nil)) (pv 1)))
      (pss_cons (ps_for PassesOwn.never (by rfl) (RZ.pi_zipA (by rfl) T.b_zip (pa_cons (pv 2) (pa_cons (pv 3) pa_nil))) (pg_tup (by rfl) (pgs_cons (pg_name (i := 5) sc_made_of.nd rfl (.inl rfl)) (pgs_cons (pg_name (i := 6) sc_made_of.nd rfl (.inl rfl)) pgs_nil)))
        (pss_one (ps_set (i := 4) sc_made_of.nd rfl (.inl rfl) (pe_callO O_added (hr.mono (by omega)) (by rfl) (pa_cons (pv 0) (pa_cons (pv 4) (pa_cons (pe_callO O_times (hr.mono (by omega)) (by rfl) (pa_cons (pv 0) (pa_cons (pv 6) (pa_cons (pv 5) pa_nil)))) pa_nil)))))))
      (pss_one (ps_ret (pv 4)))))), ?_⟩
    refine ⟨sz1000 (by decide : (1 : Nat) ≤ 1000), fun z nz => ?_⟩
    generalize h1 : upd H z _ = H1
    obtain ⟨s1, e1⟩ := new_of h1 nz
    have e1 : H1 z = some (.tup ([0].map V.int)) := e1
    refine ⟨.int n, rfl, z, n, _, rfl, rfl, .inl (.inl e1), List.cons_ne_nil _ _, hn1, hn2, by decide, fun y H2 s2 hy => ?_⟩
    have hy : SqT K H2 y ((List.replicate n.toNat (0 : Int)).map V.int) := (rep_int n.toNat 0) ▸ hy
    have s12 := s1.trans s2
    have hR2 := dpAll_same s12 _ _ hR
    have lw : ws.length = rs.length := by
      have := dpAll_len hR
      rw [List.length_map] at this
      exact this
    refine ⟨.ref a, rfl, .ref b, rfl, a, b, _, _, rfl, .inr ⟨Same.tup s12 hA, Same.tup s12 hB, ?_⟩⟩
    refine for_it (walk_zipT (K := K) (a := a) (b := b) (xs := ws) (ys := fs.map V.int) rfl) (fun i σ H' => Same H2 H' ∧ ∃ (l : Addr) (y5 y6 : Option V), SqT K H' l ((madeR p (List.replicate n.toNat 0) ((rs.zip fs).take i)).map V.int) ∧ σ = [some (.int p), some (.int n), some (.ref a), some (.ref b), some (.ref l), y5, y6]) ⟨Same.refl H2, y, none, none, hy, rfl⟩ (fun i σ H' _ hW => ⟨Same.tup (s12.trans hW.1) hA, Same.tup (s12.trans hW.1) hB⟩) (fun i x σ H3 H4 hi hW hY => ?_) (fun σ H' hW => ?_)
    · obtain ⟨sm, l, y5, y6, hl3, rfl⟩ := hW
      obtain ⟨Ta, x1, f1, rfl, nT, rfl, g1, g2⟩ := hY
      have g1 : ws[i]? = some x1 := g1
      have g2 : (fs.map V.int)[i]? = some f1 := g2
      obtain ⟨c, r, rfl, gr, mr, hc⟩ := dpAll_row hR2 g1
      rw [List.getElem?_map] at g2
      cases hfi : fs[i]? with
      | none => rw [hfi] at g2; cases g2
      | some f =>
        rw [hfi] at g2
        have ef : f1 = V.int f := (Option.some.inj g2).symm
        subst ef
        have mf := hf f (List.mem_of_getElem? hfi)
        have sT : Same H3 (upd H3 Ta (.tup [.ref c, .int f])) := same_upd nT
        refine ⟨Ta, [.ref c, .int f], rfl, .inl (.inl upd_same), rfl, .ref c, [.int f], rfl, .int f, [], rfl, rfl, ?_⟩
        have hc4 := Same.tup (sm.trans sT) hc
        have hl4 := Same.tup sT hl3
        have lr := hln r mr
        refine ⟨.int p, rfl, .ref l, rfl, .int p, rfl, .int f, rfl, .ref c, rfl, c, r, p, f, rfl, hc4, by omega, hp, by omega, by omega, fun H5 l5 s5 n5 e5 => ?_⟩
        have zl : (List.replicate n.toNat (0 : Int)).length = n.toNat := List.length_replicate
        have ml : (madeR p (List.replicate n.toNat 0) ((rs.zip fs).take i)).length = n.toNat := made_len p n.toNat _ _ zl fun x hx => by
          have h1 := List.mem_of_mem_take hx
          have h2 := hln x.1 (List.of_mem_zip h1).1
          omega
        refine ⟨l, l5, _, timesR p f r, p, rfl, Same.tup s5 hl4, .inl (.inl e5), by omega, hp, fun H6 l6 s6 n6 e6 => ?_⟩
        have gz : (rs.zip fs)[i]? = some (r, f) := by
          rw [List.getElem?_zip_eq_some]
          exact ⟨gr, hfi⟩
        refine ⟨((sm.trans sT).trans s5).trans s6, l6, _, _, .inl (.inl ?_), rfl⟩
        rw [e6, made_take gz, add_times]
    · obtain ⟨sm, l, y5, y6, hl3, rfl⟩ := hW
      refine ⟨.ref l, rfl, q H' l (s12.trans sm) ?_⟩
      rw [List.take_of_length_le] at hl3
      · exact hl3
      · rw [List.length_zip, List.length_map]
        omega

theorem worth_take (p : Int) (x y : List Int) (i : Nat) {u v : Int} (h1 : x[i]? = some u) (h2 : y[i]? = some v) : (((List.zipWith (fun a b => a * b) x y).take i).sum % p + u * v) % p = ((List.zipWith (fun a b => a * b) x y).take (i + 1)).sum % p := by
  rw [sum_take (z := u * v) (by rw [List.getElem?_zipWith, h1, h2]), Int.emod_add_emod]
def sp_lworth (K : PySem.W.Frag) : Sp := fun vs H Q _ => ∃ (a b : Addr) (x y : List Int) (p : Int), vs = [.int p, .ref a, .ref b] ∧ x.length = y.length ∧ SqT K H a (x.map V.int) ∧ SqT K H b (y.map V.int) ∧ x.length ≤ 1000 ∧ 0 < p ∧ p ≤ 1000000 ∧ RowOk p x ∧ Q (.int (worthR p x y)) H
theorem ok__law_worth (T : Top K mg) : Ok P w K mg base 1 "_law_worth" ["_law_p", "_law_row_here", "_law_world"] (sp_lworth K) := by
  refine T.d__law_worth.ok sc__law_worth (fun vs H Q E h => ?_) (fun f cdv A outer s H vs Q E hr h => ?_)
  · obtain ⟨a, b, x, y, p, rfl, _⟩ := h
    rfl
  · obtain ⟨a, b, x, y, p, rfl, le, hA, hB, hz, hp, hp2, ro, q⟩ := h
    refine ⟨_, ((pss_cons (ps_set (i := 3) sc__law_worth.nd rfl (.inl rfl) pe_int)
      (pss_cons (ps_for PassesOwn.never (by rfl) (pi_range1 (by rfl) T.b_range (pa_cons (pe_callB call_len_seq (by rfl) T.b_len (by decide +kernel) (pa_cons (pv 1) pa_nil)) pa_nil)) (pg_name (i := 4) sc__law_worth.nd rfl (.inl rfl))
        (pss_one (ps_set (i := 3) sc__law_worth.nd rfl (.inl rfl) (pe_op op_mod (pe_op op_add (pv 3) (pe_op op_mul (pe_ix ix_tup (pv 1) (pv 4) (fun _ _ => rfl)) (pe_ix ix_tup (pv 2) (pv 4) (fun _ _ => rfl)))) (pv 0)))))
      (pss_one (ps_ret (pv 3)))))), ?_⟩
    refine ⟨.ref a, rfl, a, _, rfl, .inr hA, _, rfl, by omega, by rw [List.length_map]; omega, for_range (lo := 0) (n := (x.map V.int).length) (fun i σ H' => H' = H ∧ ∃ y4, σ = [some (.int p), some (.ref a), some (.ref b), some (.int (((List.zipWith (fun a b => a * b) x y).take i).sum % p)), y4]) ⟨rfl, none, ?_⟩ (fun i σ H' hi hW => ?_) (fun σ H' hW => ?_)⟩
    · rw [List.take_zero, List.sum_nil, Int.zero_emod]
      rfl
    · obtain ⟨rfl, y4, rfl⟩ := hW
      rw [List.length_map] at hi
      have g1 : x[i]? = some x[i] := List.getElem?_eq_getElem hi
      have hi2 : i < y.length := by omega
      have g2 : y[i]? = some y[i] := List.getElem?_eq_getElem hi2
      have a1 : atI (x.map V.int) (0 + (i : Int)) = some (.int x[i]) := at_of (j := i) (by omega) (by rw [List.getElem?_map, g1]; rfl)
      have a2 : atI (y.map V.int) (0 + (i : Int)) = some (.int y[i]) := at_of (j := i) (by omega) (by rw [List.getElem?_map, g2]; rfl)
      have b1 := ro x[i] (List.getElem_mem hi)
      refine ⟨_, rfl, .ref a, rfl, .int (0 + i), rfl, a, _, _, _, rfl, rfl, hA, a1, .ref b, rfl, .int (0 + i), rfl, b, _, _, _, rfl, rfl, hB, a2, x[i], y[i], rfl, rfl, .inl ⟨by omega, by omega⟩, _, _, rfl, rfl, .int p, rfl, _, p, rfl, rfl, hp, rfl, some (.int (0 + i)), ?_⟩
      rw [← worth_take p x y i g1 g2]
      rfl
    · obtain ⟨rfl, y4, rfl⟩ := hW
      refine ⟨_, rfl, ?_⟩
      rw [List.take_of_length_le (by rw [List.length_zipWith, List.length_map]; omega)]
      exact q

end
end OC

set_option Elab.async false
set_option linter.all false
set_option maxRecDepth 100000
namespace OC
open PySem PySem.Spec PyProof.Rows L2
section
variable {P : Program} {w : World} {K : PySem.W.Frag} {mg : Str → Option Value} {base : Heap}
theorem lv_row (r : List Int) (h : r.length ≤ 1000) (L : PyData → Prop) : Lv (Lv L) (rowD r) := by
  refine .inr ⟨_, rfl, by rw [List.length_map]; exact h, fun x hx => ?_⟩
  obtain ⟨i, _, rfl⟩ := List.mem_map.mp hx
  exact .inl True.intro
def sp_two (K : PySem.W.Frag) : Sp := fun vs H Q _ => ∃ (a b c : Addr) (x y z : List Int) (p m : Int), vs = [.int p, .ref a, .ref b, .ref c, .int m] ∧ SqT K H a (x.map V.int) ∧ SqT K H b (y.map V.int) ∧ SqT K H c (z.map V.int) ∧ x.length = y.length ∧ x.length = z.length ∧ x.length ≤ 1000 ∧ RowOk p x ∧ RowOk p y ∧ RowOk p z ∧ 2 ≤ p ∧ p ≤ 1000 ∧ 0 ≤ m ∧ m < p ∧
  ∀ H', Same H H' → Q (.bl true) H'
theorem ok__law_two_right (T : Top K mg) : Ok P w K mg base 4 "_law_two_right" ["_law_p", "_law_one", "_law_other", "_law_world", "_law_a"] (sp_two K) := by
  have O_added := ok_added (P := P) (w := w) (base := base) T
  have O_times := ok_times (P := P) (w := w) (base := base) T
  have O_worth := ok_worth (P := P) (w := w) (base := base) T
  have O__law_worth := ok__law_worth (P := P) (w := w) (base := base) T
  have O__law_plus := ok__law_plus (P := P) (w := w) (base := base) T
  have O__law_same := ok_same2 (P := P) (w := w) (base := base) T
  refine T.d__law_two_right.ok sc__law_two_right (fun vs H Q E h => ?_) (fun f cdv A outer s H vs Q E hr h => ?_)
  · obtain ⟨a, b, c, x, y, z, p, m, rfl, _⟩ := h
    rfl
  · obtain ⟨a, b, c, x, y, z, p, m, rfl, hA, hB, hC, lxy, lxz, hz, rx, ry, rz, hp1, hp2, hm1, hm2, q⟩ := h
    refine ⟨_, ((pss_cons (ps_set (i := 5) sc__law_two_right.nd rfl (.inl rfl) (pe_callO O_added (hr.mono (by omega)) (by rfl) (pa_cons (pv 0) (pa_cons (pv 1) (pa_cons (pv 2) pa_nil)))))
      (pss_cons (ps_if (pt_not (pt_val (pe_callO O__law_same (hr.mono (by omega)) (by rfl) (pa_cons (pv 5) (pa_cons (pe_callO O__law_plus (hr.mono (by omega)) (by rfl) (pa_cons (pv 0) (pa_cons (pv 1) (pa_cons (pv 2) (pa_cons pe_int pa_nil))))) pa_nil)))))
        (pss_one (ps_ret pe_bl))
        pss_nil)
      (pss_cons (ps_if (pt_not (pt_val (pe_callO O__law_same (hr.mono (by omega)) (by rfl) (pa_cons (pe_callO O_times (hr.mono (by omega)) (by rfl) (pa_cons (pv 0) (pa_cons (pv 4) (pa_cons (pv 1) pa_nil)))) (pa_cons (pe_callO O__law_plus (hr.mono (by omega)) (by rfl) (pa_cons (pv 0) (pa_cons (pv 1) (pa_cons (pv 1) (pa_cons (pe_op op_sub (pv 4) pe_int) pa_nil))))) pa_nil)))))
        (pss_one (ps_ret pe_bl))
        pss_nil)
      (pss_cons (ps_if (pt_not (pt_val (pe_callO O__law_same (hr.mono (by omega)) (by rfl) (pa_cons (pe_callO O_worth (hr.mono (by omega)) (by rfl) (pa_cons (pv 0) (pa_cons (pv 1) (pa_cons (pv 3) pa_nil)))) (pa_cons (pe_callO O__law_worth (hr.mono (by omega)) (by rfl) (pa_cons (pv 0) (pa_cons (pv 1) (pa_cons (pv 3) pa_nil)))) pa_nil)))))
        (pss_one (ps_ret pe_bl))
        pss_nil)
      (pss_cons (ps_if (pt_not (pt_val (pe_callO O__law_same (hr.mono (by omega)) (by rfl) (pa_cons (pe_callO O_worth (hr.mono (by omega)) (by rfl) (pa_cons (pv 0) (pa_cons (pv 5) (pa_cons (pv 3) pa_nil)))) (pa_cons (pe_op op_mod (pe_op op_add (pe_callO O_worth (hr.mono (by omega)) (by rfl) (pa_cons (pv 0) (pa_cons (pv 1) (pa_cons (pv 3) pa_nil)))) (pe_callO O_worth (hr.mono (by omega)) (by rfl) (pa_cons (pv 0) (pa_cons (pv 2) (pa_cons (pv 3) pa_nil))))) (pv 0)) pa_nil)))))
        (pss_one (ps_ret pe_bl))
        pss_nil)
      (pss_one (ps_ret (pe_callO O__law_same (hr.mono (by omega)) (by rfl) (pa_cons (pe_callO O_worth (hr.mono (by omega)) (by rfl) (pa_cons (pv 0) (pa_cons (pe_callO O_times (hr.mono (by omega)) (by rfl) (pa_cons (pv 0) (pa_cons (pv 4) (pa_cons (pv 1) pa_nil)))) (pa_cons (pv 3) pa_nil)))) (pa_cons (pe_op op_mod (pe_op op_mul (pv 4) (pe_callO O_worth (hr.mono (by omega)) (by rfl) (pa_cons (pv 0) (pa_cons (pv 1) (pa_cons (pv 3) pa_nil))))) (pv 0)) pa_nil))))))))))), ?_⟩
    have hp : 0 < p := by omega
    have ladd : (addR p x y).length = x.length := add_len lxy
    have ltim : (timesR p m x).length = x.length := times_len
    refine ⟨.int p, rfl, .ref a, rfl, .ref b, rfl, a, b, x, y, p, rfl, hA, hB, hz, hp, fun H1 l1 s1 n1 e1 => ?_⟩
    refine ⟨.ref l1, rfl, .int p, rfl, .ref a, rfl, .ref b, rfl, a, b, x, y, p, 1, rfl, Same.tup s1 hA, Same.tup s1 hB, hz, hp, by omega, by omega, fun H2 l2 s2 n2 e2 => ?_⟩
    rw [plus1] at e2
    refine ⟨.ref l1, .ref l2, rowD (addR p x y), rfl, row_dp (.inl (.inl (s2 _ _ e1))), row_dp (.inl (.inl e2)), lv_row _ (by omega) _, fun H3 s3 => ⟨true, rfl, iteF ?_⟩⟩
    have t3 : Same H H3 := (s1.trans s2).trans s3
    have e13 : SqT K H3 l1 ((addR p x y).map V.int) := .inl (.inl (s3 _ _ (s2 _ _ e1)))
    refine ⟨.int p, rfl, .int m, rfl, .ref a, rfl, a, x, p, m, rfl, Same.tup t3 hA, hz, hp, by omega, by omega, fun H4 l4 s4 n4 e4 => ?_⟩
    have t4 := t3.trans s4
    refine ⟨.int p, rfl, .ref a, rfl, .ref a, rfl, .int m, rfl, m, 1, rfl, rfl, a, a, x, x, p, m - 1, rfl, Same.tup t4 hA, Same.tup t4 hA, hz, hp, by omega, by omega, fun H5 l5 s5 n5 e5 => ?_⟩
    rw [plus_times] at e5
    refine ⟨.ref l4, .ref l5, rowD (timesR p m x), rfl, row_dp (.inl (.inl (s5 _ _ e4))), row_dp (.inl (.inl e5)), lv_row _ (by omega) _, fun H6 s6 => ⟨true, rfl, iteF ?_⟩⟩
    have t6 := (t4.trans s5).trans s6
    have u6 : Same H3 H6 := (s4.trans s5).trans s6
    refine ⟨.int p, rfl, .ref a, rfl, .ref c, rfl, a, c, x, z, p, rfl, Same.tup t6 hA, Same.tup t6 hC, hz, hp, by omega, rx, fun H7 s7 => ?_⟩
    have t7 := t6.trans s7
    refine ⟨.int p, rfl, .ref a, rfl, .ref c, rfl, a, c, x, z, p, rfl, lxz, Same.tup t7 hA, Same.tup t7 hC, hz, hp, by omega, rx, ?_⟩
    refine ⟨.int _, .int _, .int (worthR p x z), rfl, .int _, .int _, .inl True.intro, fun H9 s9 => ⟨true, rfl, iteF ?_⟩⟩
    have t9 := t7.trans s9
    have u9 : Same H3 H9 := (u6.trans s7).trans s9
    refine ⟨.int p, rfl, .ref l1, rfl, .ref c, rfl, l1, c, _, z, p, rfl, Same.tup u9 e13, Same.tup t9 hC, by omega, hp, by omega, add_ok hp, fun H10 s10 => ?_⟩
    have t10 := t9.trans s10
    refine ⟨.int p, rfl, .ref a, rfl, .ref c, rfl, a, c, x, z, p, rfl, Same.tup t10 hA, Same.tup t10 hC, hz, hp, by omega, rx, fun H11 s11 => ?_⟩
    have t11 := t10.trans s11
    refine ⟨.int p, rfl, .ref b, rfl, .ref c, rfl, b, c, y, z, p, rfl, Same.tup t11 hB, Same.tup t11 hC, by omega, hp, by omega, ry, fun H12 s12 => ?_⟩
    have t12 := t11.trans s12
    refine ⟨_, _, rfl, rfl, .int p, rfl, _, p, rfl, rfl, hp, .int _, .int _, .int (worthR p (addR p x y) z), rfl, .int _, ?_, .inl True.intro, fun H13 s13 => ⟨true, rfl, iteF ?_⟩⟩
    · rw [worth_add p x y z lxy]
      exact .int _
    have t13 := t12.trans s13
    refine ⟨.int p, rfl, .int p, rfl, .int m, rfl, .ref a, rfl, a, x, p, m, rfl, Same.tup t13 hA, hz, hp, by omega, by omega, fun H14 l14 s14 n14 e14 => ?_⟩
    have t14 := t13.trans s14
    refine ⟨.ref c, rfl, l14, c, _, z, p, rfl, .inl (.inl e14), Same.tup t14 hC, by omega, hp, by omega, times_ok hp, fun H15 s15 => ?_⟩
    have t15 := t14.trans s15
    refine ⟨.int m, rfl, .int p, rfl, .ref a, rfl, .ref c, rfl, a, c, x, z, p, rfl, Same.tup t15 hA, Same.tup t15 hC, hz, hp, by omega, rx, fun H16 s16 => ?_⟩
    have t16 := t15.trans s16
    refine ⟨m, _, rfl, rfl, .inl ⟨by omega, by omega⟩, .int p, rfl, _, p, rfl, rfl, hp, .int _, .int _, .int (worthR p (timesR p m x) z), rfl, .int _, ?_, .inl True.intro, fun H17 s17 => q _ (t16.trans s17)⟩
    rw [worth_times]
    exact .int _

end
end OC

set_option Elab.async false
set_option linter.all false
set_option maxRecDepth 100000
namespace OC
open PySem PySem.Spec PyProof.Rows L2
section
variable {P : Program} {w : World} {K : PySem.W.Frag} {mg : Str → Option Value} {base : Heap}
theorem Deck.mut {H : Hp} {d c B : Addr} {t : Int} {o : HO} (D : Deck H d c t) (b : ¬ Bad d c B) : Deck (upd H B o) d c t := by
  obtain ⟨hd, ⟨cells, h1, h2⟩, n, t0⟩ := D
  exact ⟨by rw [upd_ne (fun z => b (.inl z.symm))]; exact hd, ⟨cells, by rw [upd_ne (fun z => b (.inr z.symm))]; exact h1, h2⟩, n, t0⟩
theorem Kept.mut {H H' : Hp} {d c B : Addr} {o : HO} (k : Kept d c H H') (n : H B = none) : Kept d c H (upd H' B o) := fun b x h n1 n2 => by
  rw [upd_ne (ne_of_none h n)]
  exact k b x h n1 n2
def sp_law (K : PySem.W.Frag) : Sp := fun vs H Q _ => ∃ (a : Addr) (ns : List Int), vs = [.ref a] ∧ SqL K H a (ns.map V.int) ∧ ns.length ≤ 63 ∧ ∀ H', Q (.bl true) H'
theorem ok_law (T : Top K mg) {f : Addr} {fd : FuncData} (F : Fun K "law" "law" s_law f fd) : FnOk P w K mg base CX0 5 f fd ["_law_script"] (sp_law K) := by
  have O__law_deck := ok__law_deck (P := P) (w := w) (base := base) T
  have O__law_draw := ok__law_draw (P := P) (w := w) (base := base) T
  have O__law_prime := ok__law_prime (P := P) (w := w) (base := base) T
  have O__law_row := ok__law_row (P := P) (w := w) (base := base) T
  have O__law_rows := ok__law_rows (P := P) (w := w) (base := base) T
  have O__law_plus := ok__law_plus (P := P) (w := w) (base := base) T
  have O_made_of := ok_made_of (P := P) (w := w) (base := base) T
  have O__law_two_right := ok__law_two_right (P := P) (w := w) (base := base) T
  have O__law_same := ok_same2 (P := P) (w := w) (base := base) T
  refine F.ok sc_law (fun vs H Q E h => ?_) (fun cdv A outer s H vs Q E hr h => ?_)
  · obtain ⟨a, ns, rfl, _⟩ := h
    rfl
  · obtain ⟨a, ns, rfl, hS, hl, q⟩ := h
    refine ⟨_, ((pss_cons (ps_set (i := 1) sc_law.nd rfl (.inr rfl) (pe_callO O__law_deck (hr.mono (by omega)) (by rfl) (pa_cons (pv 0) pa_nil)))
      (pss_cons (ps_for PassesOwn.never (by rfl) (pi_range1 (by rfl) T.b_range (pa_cons pe_int pa_nil)) (pg_name (i := 2) sc_law.nd rfl (.inl rfl))
        (pss_cons (ps_set (i := 3) sc_law.nd rfl (.inr rfl) (pe_callO O__law_prime (hr.mono (by omega)) (by rfl) (pa_cons (pv 1) pa_nil)))
        (pss_cons (ps_set (i := 4) sc_law.nd rfl (.inl rfl) (pe_op op_add pe_int (pe_callO O__law_draw (hr.mono (by omega)) (by rfl) (pa_cons (pv 1) (pa_cons pe_int pa_nil)))))
        (pss_cons (ps_set (i := 5) sc_law.nd rfl (.inl rfl) (pe_callO O__law_row (hr.mono (by omega)) (by rfl) (pa_cons (pv 1) (pa_cons (pv 3) (pa_cons (pv 4) pa_nil)))))
        (pss_cons (ps_set (i := 6) sc_law.nd rfl (.inl rfl) (pe_callO O__law_row (hr.mono (by omega)) (by rfl) (pa_cons (pv 1) (pa_cons (pv 3) (pa_cons (pv 4) pa_nil)))))
        (pss_cons (ps_set (i := 7) sc_law.nd rfl (.inl rfl) (pe_callO O__law_row (hr.mono (by omega)) (by rfl) (pa_cons (pv 1) (pa_cons (pv 3) (pa_cons (pv 4) pa_nil)))))
        (pss_cons (ps_for PassesOwn.never (by rfl) (pi_list (pe_lst (pa_cons pe_int (pa_cons pe_int (pa_cons (pe_op op_sub (pv 3) pe_int) (pa_cons (pe_callO O__law_draw (hr.mono (by omega)) (by rfl) (pa_cons (pv 1) (pa_cons (pv 3) pa_nil))) pa_nil)))))) (pg_name (i := 8) sc_law.nd rfl (.inl rfl))
          (pss_one (ps_if (PW.pt (pw_or (pt_not (pt_val (pe_callO O__law_two_right (hr.mono (by omega)) (by rfl) (pa_cons (pv 3) (pa_cons (pv 5) (pa_cons (pv 6) (pa_cons (pv 7) (pa_cons (pv 8) pa_nil)))))))) (pw_or1 (pt_not (pt_val (pe_callO O__law_two_right (hr.mono (by omega)) (by rfl) (pa_cons (pv 3) (pa_cons (pv 6) (pa_cons (pv 5) (pa_cons (pv 5) (pa_cons (pv 8) pa_nil)))))))))))
            (pss_one (ps_ret pe_bl))
            pss_nil)))
        (pss_cons (ps_set (i := 9) sc_law.nd rfl (.inl rfl) (pe_callO O__law_rows (hr.mono (by omega)) (by rfl) (pa_cons (pv 1) (pa_cons (pv 3) (pa_cons (pv 4) (pa_cons pe_int pa_nil))))))
        (pss_cons (ps_set (i := 11) sc_law.nd rfl (.inl rfl) (pe_callTy call_tuple_of (by rfl) T.b_tuple (by decide +kernel) (pa_cons (pe_lc (own := [("_law_row_here", 10)]) (g := gName 10) (by rfl) sc_law.nd (pi_tup (pv 9)) (blkOk_by (own := [("_law_row_here", 10)]) (N := N_law) (sc := defScope s_law) (by decide +kernel)) (fun _ _ _ _ _ => (pg_name (i := 10) sc_law.nd rfl (.inl rfl))) (fun _ _ _ _ _ => pts_nil) (fun _ _ _ _ _ => (pe_callO O__law_draw (hr.mono (by omega)) (by rfl) (pa_cons (pv 1) (pa_cons (pv 3) pa_nil))))) pa_nil)))
        (pss_cons (ps_set (i := 12) sc_law.nd rfl (.inl rfl) (pe_op op_repB (pe_tup (pa_cons pe_int pa_nil)) (pv 4)))
        (pss_cons (ps_for PassesOwn.never (by rfl) (RZ.pi_zipA (by rfl) T.b_zip (pa_cons (pv 9) (pa_cons (pv 11) pa_nil))) (pg_tup (by rfl) (pgs_cons (pg_name (i := 10) sc_law.nd rfl (.inl rfl)) (pgs_cons (pg_name (i := 13) sc_law.nd rfl (.inl rfl)) pgs_nil)))
          (pss_one (ps_set (i := 12) sc_law.nd rfl (.inl rfl) (pe_callO O__law_plus (hr.mono (by omega)) (by rfl) (pa_cons (pv 3) (pa_cons (pv 12) (pa_cons (pv 10) (pa_cons (pv 13) pa_nil))))))))
        (pss_one (ps_if (PW.pt (pw_or (pt_not (pt_val (pe_callO O__law_same (hr.mono (by omega)) (by rfl) (pa_cons (pe_callO O_made_of (hr.mono (by omega)) (by rfl) (pa_cons (pv 3) (pa_cons (pv 4) (pa_cons (pv 9) (pa_cons (pv 11) pa_nil))))) (pa_cons (pv 12) pa_nil))))) (pw_or1 (pt_not (pt_val (pe_callO O__law_same (hr.mono (by omega)) (by rfl) (pa_cons (pe_callO O_made_of (hr.mono (by omega)) (by rfl) (pa_cons (pv 3) (pa_cons (pv 4) (pa_cons (pe_tup pa_nil) (pa_cons (pe_tup pa_nil) pa_nil))))) (pa_cons (pe_op op_repB (pe_tup (pa_cons pe_int pa_nil)) (pv 4)) pa_nil))))))))
          (pss_one (ps_ret pe_bl))
          pss_nil)))))))))))))
      (pss_one (ps_ret pe_bl))))), ?_⟩
    refine ⟨.ref a, rfl, a, ns, rfl, hS, hl, fun H1 d c s1 D1 nd nc => ?_⟩
    refine ⟨4, rfl, by decide, by decide, for_range (lo := 0) (n := 4) (fun i σ H' => ∃ t' : Int, Deck H' d c t' ∧ t' ≤ 2000 * i ∧ ∃ y2 y3 y4 y5 y6 y7 y8 y9 y10 y11 y12 y13 : Option V, σ = [some (.ref a), some (.ref d), y2, y3, y4, y5, y6, y7, y8, y9, y10, y11, y12, y13]) ⟨0, D1, by decide, none, none, none, none, none, none, none, none, none, none, none, none, rfl⟩ (fun i σ H2 hi hW => ?_) (fun σ H' _ => q H')⟩
    obtain ⟨t2, D2, ht2, y2, y3, y4, y5, y6, y7, y8, y9, y10, y11, y12, y13, rfl⟩ := hW
    refine ⟨.ref d, rfl, d, c, t2, rfl, D2, by omega, fun H3 p k3 D3 hp => ?_⟩
    obtain ⟨b1, b2⟩ := pr8_bd p hp
    refine ⟨.ref d, rfl, d, c, _, 8, rfl, D3, by omega, by decide, by decide, fun H4 z k4 D4 z0 z1 => ?_⟩
    refine ⟨1, z, rfl, rfl, ?_⟩
    dsimp only
    generalize hn : 1 + z = n
    have n1 : 1 ≤ n := by omega
    have n8 : n ≤ 8 := by omega
    clear hn z0 z1
    refine ⟨.ref d, rfl, .int p, rfl, .int n, rfl, d, c, _, p, n, rfl, D4, by omega, by omega, by omega, by omega, by omega, fun H5 a1 x t5 k5 D5 h5 n5 e5 lx rx => ?_⟩
    refine ⟨.ref d, rfl, .int p, rfl, .int n, rfl, d, c, _, p, n, rfl, D5, by omega, by omega, by omega, by omega, by omega, fun H6 a2 y t6 k6 D6 h6 n6 e6 ly ry => ?_⟩
    refine ⟨.ref d, rfl, .int p, rfl, .int n, rfl, d, c, _, p, n, rfl, D6, by omega, by omega, by omega, by omega, by omega, fun H7 a3 u t7 k7 D7 h7 n7 e7 lu ru => ?_⟩
    have x7 : SqT K H7 a1 (x.map V.int) := Kept.tup D6 k7 (Kept.tup D5 k6 (.inl (.inl e5)))
    have y7' : SqT K H7 a2 (y.map V.int) := Kept.tup D6 k7 (.inl (.inl e6))
    have u7 : SqT K H7 a3 (u.map V.int) := .inl (.inl e7)
    refine ⟨.int p, rfl, p, 1, rfl, rfl, .ref d, rfl, .int p, rfl, d, c, _, p, rfl, D7, by omega, by omega, by omega, fun H8 m k8 D8 m0 m1 => ?_⟩
    refine ⟨sz1000 (by decide : (4 : Nat) ≤ 1000), fun L nL => ?_⟩
    generalize h9 : upd H8 L _ = H9
    obtain ⟨s9, e9⟩ := new_of h9 nL
    have e9 : H9 L = some (.lst ([0, 1, p - 1, m].map V.int)) := e9
    have x9 := Same.tup s9 (Kept.tup D7 k8 x7)
    have y9' := Same.tup s9 (Kept.tup D7 k8 y7')
    have u9 := Same.tup s9 (Kept.tup D7 k8 u7)
    have D9 := D8.same s9
    refine ⟨L, rfl, ⟨_, .inl (.inl e9)⟩, for_list (xs := [0, 1, p - 1, m].map V.int) (fun j σ H' => Same H9 H' ∧ ∃ y8 : Option V, σ = [some (.ref a), some (.ref d), some (.int (0 + (i : Int))), some (.int p), some (.int n), some (.ref a1), some (.ref a2), some (.ref a3), y8, y9, y10, y11, y12, y13]) ⟨Same.refl H9, y8, rfl⟩ (fun j σ H' _ hW => .inl (.inl (hW.1 _ _ e9))) (fun j v σ H' hv hW => ?_) (fun σ H10 hW => ?_)⟩
    · obtain ⟨sm, y8, rfl⟩ := hW
      rw [List.getElem?_map] at hv
      cases hg : ([0, 1, p - 1, m] : List Int)[j]? with
      | none => rw [hg] at hv; cases hv
      | some b =>
        rw [hg] at hv
        have ev : v = V.int b := (Option.some.inj hv).symm
        subst ev
        have mb : b ∈ ([0, 1, p - 1, m] : List Int) := List.mem_of_getElem? hg
        have bb : 0 ≤ b ∧ b < p := by
          simp only [List.mem_cons, List.not_mem_nil, or_false] at mb
          omega
        have x' := Same.tup sm x9
        have y' := Same.tup sm y9'
        have u' := Same.tup sm u9
        refine ⟨.int p, rfl, .ref a1, rfl, .ref a2, rfl, .ref a3, rfl, .int b, rfl, a1, a2, a3, x, y, u, p, b, rfl, x', y', u', by omega, by omega, by omega, rx, ry, ru, by omega, by omega, bb.1, bb.2, fun Ha sa => ⟨true, rfl, iteF ?_⟩⟩
        exact ⟨.int p, rfl, .ref a2, rfl, .ref a1, rfl, .ref a1, rfl, .int b, rfl, a2, a1, a1, y, x, x, p, b, rfl, Same.tup sa y', Same.tup sa x', Same.tup sa x', by omega, by omega, by omega, ry, rx, rx, by omega, by omega, bb.1, bb.2, fun Hb sb => ⟨true, rfl, iteF ⟨(sm.trans sa).trans sb, _, rfl⟩⟩⟩
    · obtain ⟨sm, y8, rfl⟩ := hW
      have D10 := D9.same sm
      refine ⟨.ref d, rfl, .int p, rfl, .int n, rfl, d, c, _, p, n, 8, rfl, D10, by omega, by omega, by omega, by omega, by omega, by decide, by decide, fun H11 a4 ws rs t11 k11 D11 h11 e11 hR lr hro => ?_⟩
      have lw : ws.length = rs.length := by
        have := dpAll_len hR
        rw [List.length_map] at this
        exact this
      refine ⟨.ref a4, rfl, a4, rfl, ⟨_, .inl (.inl e11)⟩, fun B nB => ?_⟩
      have bB := D11.fresh nB
      refine lc_it (walk_tup (K := K) (a := a4) (xs := ws)) (fun j H' => Kept d c H11 H' ∧ ∃ (t' : Int) (fs : List Int), Deck H' d c t' ∧ t' ≤ t11 + j ∧ H' B = some (.lst (fs.map V.int)) ∧ fs.length = j ∧ ∀ f ∈ fs, 0 ≤ f ∧ f < p) ⟨Kept.of (same_upd nB), t11, [], D11.same (same_upd nB), by omega, upd_same, rfl, fun f hf => nomatch hf⟩ (fun j H' _ hW => Kept.tup D11 hW.1 (.inl (.inl e11))) (fun j v H' H'' hj hW hY => ?_) (fun H12 hW => ?_)
      · obtain ⟨rfl, _⟩ := hY
        obtain ⟨k', t', fs, D', ht', eB, lf, hf⟩ := hW
        refine ⟨rfl, .ref d, rfl, .int p, rfl, d, c, t', p, rfl, D', by omega, by omega, by omega, fun Ha g ka Da g0 g1 => ?_⟩
        have eB' := ka _ _ eB (fun z => bB (.inl z)) (fun z => bB (.inr z))
        refine ⟨_, eB', by rw [List.length_map]; exact small1000 (by omega), (k'.trans ka).mut nB, t' + 1, fs ++ [g], Da.mut bB, by omega, by rw [upd_same, List.map_append]; rfl, by rw [List.length_append, lf]; rfl, fun f hf' => ?_⟩
        rcases List.mem_append.mp hf' with h | h
        · exact hf f h
        · have : f = g := by simpa using h
          subst this
          exact ⟨g0, g1⟩
      · obtain ⟨k12, t12, fs, D12, ht12, eB, lf, hf⟩ := hW
        refine ⟨B, _, rfl, .inl ⟨.inl (.inl eB), fun a5 n5' => ?_⟩⟩
        generalize h13 : upd H12 a5 _ = H13
        obtain ⟨s13, e13⟩ := new_of h13 n5'
        have D13 := D12.same s13
        have hR13 : DpAll K H13 ws (rs.map rowD) := dpAll_tk ((Tk.kept D11 k12).trans (Tk.of s13)) _ _ (noL_rows rs) hR
        have w13 : SqT K H13 a4 ws := Same.tup s13 (Kept.tup D11 k12 (.inl (.inl e11)))
        have f13 : SqT K H13 a5 (fs.map V.int) := .inl (.inl e13)
        refine ⟨sz1000 (by decide : (1 : Nat) ≤ 1000), fun z nz => ?_⟩
        generalize h14 : upd H13 z _ = H14
        obtain ⟨s14, e14⟩ := new_of h14 nz
        have e14 : H14 z = some (.tup ([0].map V.int)) := e14
        refine ⟨.int n, rfl, z, n, _, rfl, rfl, .inl (.inl e14), List.cons_ne_nil _ _, n1, by omega, by decide, fun y0 H15 s15 hy0 => ?_⟩
        have hy0 : SqT K H15 y0 ((List.replicate n.toNat (0 : Int)).map V.int) := (rep_int n.toNat 0) ▸ hy0
        have s45 := s14.trans s15
        have D15 := D13.same s45
        have hR15 := dpAll_same s45 _ _ hR13
        have w15 := Same.tup s45 w13
        have f15 := Same.tup s45 f13
        have lrf : rs.length = fs.length := by omega
        refine ⟨.ref a4, rfl, .ref a5, rfl, a4, a5, _, _, rfl, .inr ⟨w15, f15, ?_⟩⟩
        refine for_it (walk_zipT (K := K) (a := a4) (b := a5) (xs := ws) (ys := fs.map V.int) rfl) (fun j σ H' => Same H15 H' ∧ ∃ (l : Addr) (y10 y13 : Option V), SqT K H' l ((madeR p (List.replicate n.toNat 0) ((rs.zip fs).take j)).map V.int) ∧ σ = [some (.ref a), some (.ref d), some (.int (0 + (i : Int))), some (.int p), some (.int n), some (.ref a1), some (.ref a2), some (.ref a3), y8, some (.ref a4), y10, some (.ref a5), some (.ref l), y13]) ⟨Same.refl H15, y0, y10, y13, hy0, rfl⟩ (fun j σ H' _ hW => ⟨Same.tup hW.1 w15, Same.tup hW.1 f15⟩) (fun j v σ Ha Hb hj hW hY => ?_) (fun σ H16 hW => ?_)
        · obtain ⟨sm', l, y10, y13, hl3, rfl⟩ := hW
          obtain ⟨Ta, v1, f1, rfl, nT, rfl, g1, g2⟩ := hY
          have g1 : ws[j]? = some v1 := g1
          have g2 : (fs.map V.int)[j]? = some f1 := g2
          obtain ⟨b, r, rfl, gr, mr, hb⟩ := dpAll_row hR15 g1
          rw [List.getElem?_map] at g2
          cases hfi : fs[j]? with
          | none => rw [hfi] at g2; cases g2
          | some f =>
            rw [hfi] at g2
            have ef : f1 = V.int f := (Option.some.inj g2).symm
            subst ef
            have mf := hf f (List.mem_of_getElem? hfi)
            have sT : Same Ha (upd Ha Ta (.tup [.ref b, .int f])) := same_upd nT
            have zl : (List.replicate n.toNat (0 : Int)).length = n.toNat := List.length_replicate
            have ml : (madeR p (List.replicate n.toNat 0) ((rs.zip fs).take j)).length = n.toNat := made_len p n.toNat _ _ zl fun x hx => by
              have h1 := List.mem_of_mem_take hx
              have h2 := (hro x.1 (List.of_mem_zip h1).1).1
              omega
            refine ⟨Ta, [.ref b, .int f], rfl, .inl (.inl upd_same), rfl, .ref b, [.int f], rfl, .int f, [], rfl, rfl, ?_⟩
            refine ⟨.int p, rfl, .ref l, rfl, .ref b, rfl, .int f, rfl, l, b, _, r, p, f, rfl, Same.tup sT hl3, Same.tup (sm'.trans sT) hb, by omega, by omega, by omega, by omega, fun Hc l6 s6 n6 e6 => ?_⟩
            have gz : (rs.zip fs)[j]? = some (r, f) := by
              rw [List.getElem?_zip_eq_some]
              exact ⟨gr, hfi⟩
            refine ⟨(sm'.trans sT).trans s6, l6, _, _, .inl (.inl ?_), rfl⟩
            rw [e6, made_take gz]
        · obtain ⟨s16, l, y10, y13, hl3, rfl⟩ := hW
          rw [List.take_of_length_le (by rw [List.length_zip, List.length_map]; omega)] at hl3
          have zl : (List.replicate n.toNat (0 : Int)).length = n.toNat := List.length_replicate
          have ml : (madeR p (List.replicate n.toNat 0) (rs.zip fs)).length = n.toNat := made_len p n.toNat _ _ zl fun x hx => by
            have h2 := (hro x.1 (List.of_mem_zip hx).1).1
            omega
          refine ⟨.int p, rfl, .int n, rfl, .ref a4, rfl, .ref a5, rfl, a4, a5, ws, rs, fs, p, n, rfl, Same.tup s16 w15, dpAll_same s16 _ _ hR15, Same.tup s16 f15, lrf, by omega, n1, by omega, fun r hr => (hro r hr).1, fun f h => ⟨(hf f h).1, by have := hf f h; omega⟩, fun H17 l17 s17 e17 => ?_⟩
          refine ⟨.ref l, rfl, .ref l17, .ref l, rowD _, rfl, row_dp e17, row_dp (Same.tup s17 hl3), lv_row _ (by omega) _, fun H18 s18 => ⟨true, rfl, iteF ?_⟩⟩
          refine ⟨.int p, rfl, .int n, rfl, Nat.zero_le _, fun e1 ne1 => ?_⟩
          generalize h19 : upd H18 e1 _ = H19
          obtain ⟨s19, e19⟩ := new_of h19 ne1
          refine ⟨Nat.zero_le _, fun e2 ne2 => ?_⟩
          generalize h20 : upd H19 e2 _ = H20
          obtain ⟨s20, e20⟩ := new_of h20 ne2
          refine ⟨e1, e2, [], [], [], p, n, rfl, .inl (.inl (s20 _ _ e19)), .nil, .inl (.inl e20), rfl, by omega, n1, by omega, fun r hr => (nomatch hr), fun f h => (nomatch h), fun H21 l21 s21 e21 => ?_⟩
          refine ⟨sz1000 (by decide : (1 : Nat) ≤ 1000), fun z2 nz2 => ?_⟩
          generalize h22 : upd H21 z2 _ = H22
          obtain ⟨s22, e22⟩ := new_of h22 nz2
          have e22 : H22 z2 = some (.tup ([0].map V.int)) := e22
          refine ⟨.int n, rfl, z2, n, _, rfl, rfl, .inl (.inl e22), List.cons_ne_nil _ _, n1, by omega, by decide, fun y1 H23 s23 hy1 => ?_⟩
          have hy1 : SqT K H23 y1 ((List.replicate n.toNat (0 : Int)).map V.int) := (rep_int n.toNat 0) ▸ hy1
          refine ⟨.ref l21, .ref y1, rowD (List.replicate n.toNat 0), rfl, row_dp (Same.tup (s22.trans s23) e21), row_dp hy1, lv_row _ (by omega) _, fun H24 s24 => ⟨true, rfl, iteF ⟨t12, ?_, by omega, _, _, _, _, _, _, _, _, _, _, _, _, rfl⟩⟩⟩
          exact D15.same (((((((s16.trans s17).trans s18).trans s19).trans s20).trans s21).trans (s22.trans s23)).trans s24)
end
/-! ### the end -/
theorem all_mk {l : PySem.W.OpenLaw} {w : World} {K : PySem.W.Frag} {h : Heap} {mg : Str → Option Value} {fa : Addr} (X : K.In h) (G : h.Ns mainGlobals mg) (hfa : mg "law" = some (.ref fa))
    {f0 : Addr} {od0 an0 : Option Addr} {sl0 : Array (Option Value)} {oc0 kV0 dc0 pm0 cd0 ct0 : Value}
    (a0 : PySem.W.nsIn K mainGlobals "added" = some (some (.ref f0))) (l0 : K.lookup f0 = some ⟨oc0, od0, .func (PySem.W.fnOf "added" "added" (defArgs s_added) (defBody s_added) (defScope s_added) .none kV0 dc0 pm0 an0 cd0 ct0), sl0⟩) (c0 : PySem.W.codeIn K cd0 "added" = true) (k0 : PySem.W.keepIn K (.ref f0) = true)
    {f1 : Addr} {od1 an1 : Option Addr} {sl1 : Array (Option Value)} {oc1 kV1 dc1 pm1 cd1 ct1 : Value}
    (a1 : PySem.W.nsIn K mainGlobals "times" = some (some (.ref f1))) (l1 : K.lookup f1 = some ⟨oc1, od1, .func (PySem.W.fnOf "times" "times" (defArgs s_times) (defBody s_times) (defScope s_times) .none kV1 dc1 pm1 an1 cd1 ct1), sl1⟩) (c1 : PySem.W.codeIn K cd1 "times" = true) (k1 : PySem.W.keepIn K (.ref f1) = true)
    {f2 : Addr} {od2 an2 : Option Addr} {sl2 : Array (Option Value)} {oc2 kV2 dc2 pm2 cd2 ct2 : Value}
    (a2 : PySem.W.nsIn K mainGlobals "worth" = some (some (.ref f2))) (l2 : K.lookup f2 = some ⟨oc2, od2, .func (PySem.W.fnOf "worth" "worth" (defArgs s_worth) (defBody s_worth) (defScope s_worth) .none kV2 dc2 pm2 an2 cd2 ct2), sl2⟩) (c2 : PySem.W.codeIn K cd2 "worth" = true) (k2 : PySem.W.keepIn K (.ref f2) = true)
    {f3 : Addr} {od3 an3 : Option Addr} {sl3 : Array (Option Value)} {oc3 kV3 dc3 pm3 cd3 ct3 : Value}
    (a3 : PySem.W.nsIn K mainGlobals "made_of" = some (some (.ref f3))) (l3 : K.lookup f3 = some ⟨oc3, od3, .func (PySem.W.fnOf "made_of" "made_of" (defArgs s_made_of) (defBody s_made_of) (defScope s_made_of) .none kV3 dc3 pm3 an3 cd3 ct3), sl3⟩) (c3 : PySem.W.codeIn K cd3 "made_of" = true) (k3 : PySem.W.keepIn K (.ref f3) = true)
    {f4 : Addr} {od4 an4 : Option Addr} {sl4 : Array (Option Value)} {oc4 kV4 dc4 pm4 cd4 ct4 : Value}
    (a4 : PySem.W.nsIn K mainGlobals "_law_deck" = some (some (.ref f4))) (l4 : K.lookup f4 = some ⟨oc4, od4, .func (PySem.W.fnOf "_law_deck" "_law_deck" (defArgs s__law_deck) (defBody s__law_deck) (defScope s__law_deck) .none kV4 dc4 pm4 an4 cd4 ct4), sl4⟩) (c4 : PySem.W.codeIn K cd4 "_law_deck" = true) (k4 : PySem.W.keepIn K (.ref f4) = true)
    {f5 : Addr} {od5 an5 : Option Addr} {sl5 : Array (Option Value)} {oc5 kV5 dc5 pm5 cd5 ct5 : Value}
    (a5 : PySem.W.nsIn K mainGlobals "_law_draw" = some (some (.ref f5))) (l5 : K.lookup f5 = some ⟨oc5, od5, .func (PySem.W.fnOf "_law_draw" "_law_draw" (defArgs s__law_draw) (defBody s__law_draw) (defScope s__law_draw) .none kV5 dc5 pm5 an5 cd5 ct5), sl5⟩) (c5 : PySem.W.codeIn K cd5 "_law_draw" = true) (k5 : PySem.W.keepIn K (.ref f5) = true)
    {f6 : Addr} {od6 an6 : Option Addr} {sl6 : Array (Option Value)} {oc6 kV6 dc6 pm6 cd6 ct6 : Value}
    (a6 : PySem.W.nsIn K mainGlobals "_law_whole" = some (some (.ref f6))) (l6 : K.lookup f6 = some ⟨oc6, od6, .func (PySem.W.fnOf "_law_whole" "_law_whole" (defArgs s__law_whole) (defBody s__law_whole) (defScope s__law_whole) .none kV6 dc6 pm6 an6 cd6 ct6), sl6⟩) (c6 : PySem.W.codeIn K cd6 "_law_whole" = true) (k6 : PySem.W.keepIn K (.ref f6) = true)
    {f7 : Addr} {od7 an7 : Option Addr} {sl7 : Array (Option Value)} {oc7 kV7 dc7 pm7 cd7 ct7 : Value}
    (a7 : PySem.W.nsIn K mainGlobals "_law_same" = some (some (.ref f7))) (l7 : K.lookup f7 = some ⟨oc7, od7, .func (PySem.W.fnOf "_law_same" "_law_same" (defArgs s__law_same) (defBody s__law_same) (defScope s__law_same) .none kV7 dc7 pm7 an7 cd7 ct7), sl7⟩) (c7 : PySem.W.codeIn K cd7 "_law_same" = true) (k7 : PySem.W.keepIn K (.ref f7) = true)
    {f8 : Addr} {od8 an8 : Option Addr} {sl8 : Array (Option Value)} {oc8 kV8 dc8 pm8 cd8 ct8 : Value}
    (a8 : PySem.W.nsIn K mainGlobals "_law_prime" = some (some (.ref f8))) (l8 : K.lookup f8 = some ⟨oc8, od8, .func (PySem.W.fnOf "_law_prime" "_law_prime" (defArgs s__law_prime) (defBody s__law_prime) (defScope s__law_prime) .none kV8 dc8 pm8 an8 cd8 ct8), sl8⟩) (c8 : PySem.W.codeIn K cd8 "_law_prime" = true) (k8 : PySem.W.keepIn K (.ref f8) = true)
    {f9 : Addr} {od9 an9 : Option Addr} {sl9 : Array (Option Value)} {oc9 kV9 dc9 pm9 cd9 ct9 : Value}
    (a9 : PySem.W.nsIn K mainGlobals "_law_row" = some (some (.ref f9))) (l9 : K.lookup f9 = some ⟨oc9, od9, .func (PySem.W.fnOf "_law_row" "_law_row" (defArgs s__law_row) (defBody s__law_row) (defScope s__law_row) .none kV9 dc9 pm9 an9 cd9 ct9), sl9⟩) (c9 : PySem.W.codeIn K cd9 "_law_row" = true) (k9 : PySem.W.keepIn K (.ref f9) = true)
    {f10 : Addr} {od10 an10 : Option Addr} {sl10 : Array (Option Value)} {oc10 kV10 dc10 pm10 cd10 ct10 : Value}
    (a10 : PySem.W.nsIn K mainGlobals "_law_plus" = some (some (.ref f10))) (l10 : K.lookup f10 = some ⟨oc10, od10, .func (PySem.W.fnOf "_law_plus" "_law_plus" (defArgs s__law_plus) (defBody s__law_plus) (defScope s__law_plus) .none kV10 dc10 pm10 an10 cd10 ct10), sl10⟩) (c10 : PySem.W.codeIn K cd10 "_law_plus" = true) (k10 : PySem.W.keepIn K (.ref f10) = true)
    {f11 : Addr} {od11 an11 : Option Addr} {sl11 : Array (Option Value)} {oc11 kV11 dc11 pm11 cd11 ct11 : Value}
    (a11 : PySem.W.nsIn K mainGlobals "_law_worth" = some (some (.ref f11))) (l11 : K.lookup f11 = some ⟨oc11, od11, .func (PySem.W.fnOf "_law_worth" "_law_worth" (defArgs s__law_worth) (defBody s__law_worth) (defScope s__law_worth) .none kV11 dc11 pm11 an11 cd11 ct11), sl11⟩) (c11 : PySem.W.codeIn K cd11 "_law_worth" = true) (k11 : PySem.W.keepIn K (.ref f11) = true)
    {f12 : Addr} {od12 an12 : Option Addr} {sl12 : Array (Option Value)} {oc12 kV12 dc12 pm12 cd12 ct12 : Value}
    (a12 : PySem.W.nsIn K mainGlobals "_law_mixed" = some (some (.ref f12))) (l12 : K.lookup f12 = some ⟨oc12, od12, .func (PySem.W.fnOf "_law_mixed" "_law_mixed" (defArgs s__law_mixed) (defBody s__law_mixed) (defScope s__law_mixed) .none kV12 dc12 pm12 an12 cd12 ct12), sl12⟩) (c12 : PySem.W.codeIn K cd12 "_law_mixed" = true) (k12 : PySem.W.keepIn K (.ref f12) = true)
    {f13 : Addr} {od13 an13 : Option Addr} {sl13 : Array (Option Value)} {oc13 kV13 dc13 pm13 cd13 ct13 : Value}
    (a13 : PySem.W.nsIn K mainGlobals "_law_rows" = some (some (.ref f13))) (l13 : K.lookup f13 = some ⟨oc13, od13, .func (PySem.W.fnOf "_law_rows" "_law_rows" (defArgs s__law_rows) (defBody s__law_rows) (defScope s__law_rows) .none kV13 dc13 pm13 an13 cd13 ct13), sl13⟩) (c13 : PySem.W.codeIn K cd13 "_law_rows" = true) (k13 : PySem.W.keepIn K (.ref f13) = true)
    {f14 : Addr} {od14 an14 : Option Addr} {sl14 : Array (Option Value)} {oc14 kV14 dc14 pm14 cd14 ct14 : Value}
    (a14 : PySem.W.nsIn K mainGlobals "_law_two_right" = some (some (.ref f14))) (l14 : K.lookup f14 = some ⟨oc14, od14, .func (PySem.W.fnOf "_law_two_right" "_law_two_right" (defArgs s__law_two_right) (defBody s__law_two_right) (defScope s__law_two_right) .none kV14 dc14 pm14 an14 cd14 ct14), sl14⟩) (c14 : PySem.W.codeIn K cd14 "_law_two_right" = true) (k14 : PySem.W.keepIn K (.ref f14) = true)
    {f15 : Addr} {od15 an15 : Option Addr} {sl15 : Array (Option Value)} {oc15 kV15 dc15 pm15 cd15 ct15 : Value}
    (a15 : PySem.W.nsIn K mainGlobals "law" = some (some (.ref f15))) (l15 : K.lookup f15 = some ⟨oc15, od15, .func (PySem.W.fnOf "law" "law" (defArgs s_law) (defBody s_law) (defScope s_law) .none kV15 dc15 pm15 an15 cd15 ct15), sl15⟩) (c15 : PySem.W.codeIn K cd15 "law" = true) (k15 : PySem.W.keepIn K (.ref f15) = true)
    (z_abs : PySem.W.nsIn K mainGlobals "abs" = some none)
    (z_all : PySem.W.nsIn K mainGlobals "all" = some none)
    (z_bool : PySem.W.nsIn K mainGlobals "bool" = some none)
    (z_int : PySem.W.nsIn K mainGlobals "int" = some none)
    (z_isinstance : PySem.W.nsIn K mainGlobals "isinstance" = some none)
    (z_len : PySem.W.nsIn K mainGlobals "len" = some none)
    (z_range : PySem.W.nsIn K mainGlobals "range" = some none)
    (z_str : PySem.W.nsIn K mainGlobals "str" = some none)
    (z_sum : PySem.W.nsIn K mainGlobals "sum" = some none)
    (z_tuple : PySem.W.nsIn K mainGlobals "tuple" = some none)
    (z_zip : PySem.W.nsIn K mainGlobals "zip" = some none)
    : ∃ fd : FuncData, (∀ (s : Shared) (v : Value), BindsTo s fd ⟨[v], []⟩ [("_law_script", v)]) ∧ ∀ base : Heap, K.In base → base.Ns mainGlobals mg → FnOk l.prog w K mg base CX0 5 fa fd ["_law_script"] (sp_law K) := by
  have e := hfa.symm.trans (PySem.W.mg_of X G a15)
  cases e
  have T : Top K mg := {
    b_abs := PySem.W.mg_none_of X G z_abs,
    b_all := PySem.W.mg_none_of X G z_all,
    b_bool := PySem.W.mg_none_of X G z_bool,
    b_int := PySem.W.mg_none_of X G z_int,
    b_isinstance := PySem.W.mg_none_of X G z_isinstance,
    b_len := PySem.W.mg_none_of X G z_len,
    b_range := PySem.W.mg_none_of X G z_range,
    b_str := PySem.W.mg_none_of X G z_str,
    b_sum := PySem.W.mg_none_of X G z_sum,
    b_tuple := PySem.W.mg_none_of X G z_tuple,
    b_zip := PySem.W.mg_none_of X G z_zip,
    d_added := df_of X G a0 l0 c0 k0 (fun _ _ _ _ _ _ us hl => match us, hl with | [_, _, _], _ => rfl),
    d_times := df_of X G a1 l1 c1 k1 (fun _ _ _ _ _ _ us hl => match us, hl with | [_, _, _], _ => rfl),
    d_worth := df_of X G a2 l2 c2 k2 (fun _ _ _ _ _ _ us hl => match us, hl with | [_, _, _], _ => rfl),
    d_made_of := df_of X G a3 l3 c3 k3 (fun _ _ _ _ _ _ us hl => match us, hl with | [_, _, _, _], _ => rfl),
    d__law_deck := df_of X G a4 l4 c4 k4 (fun _ _ _ _ _ _ us hl => match us, hl with | [_], _ => rfl),
    d__law_draw := df_of X G a5 l5 c5 k5 (fun _ _ _ _ _ _ us hl => match us, hl with | [_, _], _ => rfl),
    d__law_whole := df_of X G a6 l6 c6 k6 (fun _ _ _ _ _ _ us hl => match us, hl with | [_], _ => rfl),
    d__law_same := df_of X G a7 l7 c7 k7 (fun _ _ _ _ _ _ us hl => match us, hl with | [_, _], _ => rfl),
    d__law_prime := df_of X G a8 l8 c8 k8 (fun _ _ _ _ _ _ us hl => match us, hl with | [_], _ => rfl),
    d__law_row := df_of X G a9 l9 c9 k9 (fun _ _ _ _ _ _ us hl => match us, hl with | [_, _, _], _ => rfl),
    d__law_plus := df_of X G a10 l10 c10 k10 (fun _ _ _ _ _ _ us hl => match us, hl with | [_, _, _, _], _ => rfl),
    d__law_worth := df_of X G a11 l11 c11 k11 (fun _ _ _ _ _ _ us hl => match us, hl with | [_, _, _], _ => rfl),
    d__law_mixed := df_of X G a12 l12 c12 k12 (fun _ _ _ _ _ _ us hl => match us, hl with | [_, _, _, _], _ => rfl),
    d__law_rows := df_of X G a13 l13 c13 k13 (fun _ _ _ _ _ _ us hl => match us, hl with | [_, _, _, _], _ => rfl),
    d__law_two_right := df_of X G a14 l14 c14 k14 (fun _ _ _ _ _ _ us hl => match us, hl with | [_, _, _, _, _], _ => rfl) }
  have F := fun_mk (st := s_law) l15 c15 k15
  exact ⟨PySem.W.fnOf "law" "law" (defArgs s_law) (defBody s_law) (defScope s_law) .none kV15 dc15 pm15 an15 cd15 ct15, fun s v => .of_eq rfl, fun base _ _ => ok_law T F⟩
end OC

open PySem PySem.W PyProof.Rows
set_option Elab.async false
set_option maxRecDepth 100000 in
set_option maxHeartbeats 0 in
theorem PySem.Challenge.cw_opencalls_k03_rows_reckoned_holds : PySem.Challenge.rw_opencalls_k03_rows_reckoned.Holds := by
  w_on; o_law; k_head; (case hw => w_witness2)
  k_fill
  refine L2.walk_of (l := PySem.Challenge.rw_opencalls_k03_rows_reckoned) (n := 63) (k := 5) (x := "_law_script") (CX := fun _ => L2.CX0) (sp := fun w => OC.sp_law _) rfl (by decide) rfl ⟨rfl, by decide, by decide⟩ (fun w h Y => PySem.W.kIn_of Y) ?F (fun _ _ a ns hl _ hS => ⟨a, ns, rfl, hS, hl, fun _ => rfl⟩) (fun _ _ _ _ _ h => h)
  case F =>
    intro w mg fa h KX G hmg
    refine' OC.all_mk KX G hmg ?a0 ?l0 ?c0 ?k0 ?a1 ?l1 ?c1 ?k1 ?a2 ?l2 ?c2 ?k2 ?a3 ?l3 ?c3 ?k3 ?a4 ?l4 ?c4 ?k4 ?a5 ?l5 ?c5 ?k5 ?a6 ?l6 ?c6 ?k6 ?a7 ?l7 ?c7 ?k7 ?a8 ?l8 ?c8 ?k8 ?a9 ?l9 ?c9 ?k9 ?a10 ?l10 ?c10 ?k10 ?a11 ?l11 ?c11 ?k11 ?a12 ?l12 ?c12 ?k12 ?a13 ?l13 ?c13 ?k13 ?a14 ?l14 ?c14 ?k14 ?a15 ?l15 ?c15 ?k15 ?z_abs ?z_all ?z_bool ?z_int ?z_isinstance ?z_len ?z_range ?z_str ?z_sum ?z_tuple ?z_zip
    (case a0 => k_is); (case l0 => k_is); (case c0 => k_is); (case k0 => k_is); (case a1 => k_is); (case l1 => k_is); (case c1 => k_is); (case k1 => k_is); (case a2 => k_is); (case l2 => k_is); (case c2 => k_is); (case k2 => k_is); (case a3 => k_is); (case l3 => k_is); (case c3 => k_is); (case k3 => k_is); (case a4 => k_is); (case l4 => k_is); (case c4 => k_is); (case k4 => k_is); (case a5 => k_is); (case l5 => k_is); (case c5 => k_is); (case k5 => k_is); (case a6 => k_is); (case l6 => k_is); (case c6 => k_is); (case k6 => k_is); (case a7 => k_is); (case l7 => k_is); (case c7 => k_is); (case k7 => k_is); (case a8 => k_is); (case l8 => k_is); (case c8 => k_is); (case k8 => k_is); (case a9 => k_is); (case l9 => k_is); (case c9 => k_is); (case k9 => k_is); (case a10 => k_is); (case l10 => k_is); (case c10 => k_is); (case k10 => k_is); (case a11 => k_is); (case l11 => k_is); (case c11 => k_is); (case k11 => k_is); (case a12 => k_is); (case l12 => k_is); (case c12 => k_is); (case k12 => k_is); (case a13 => k_is); (case l13 => k_is); (case c13 => k_is); (case k13 => k_is); (case a14 => k_is); (case l14 => k_is); (case c14 => k_is); (case k14 => k_is); (case a15 => k_is); (case l15 => k_is); (case c15 => k_is); (case k15 => k_is); (case z_abs => k_is); (case z_all => k_is); (case z_bool => k_is); (case z_int => k_is); (case z_isinstance => k_is); (case z_len => k_is); (case z_range => k_is); (case z_str => k_is); (case z_sum => k_is); (case z_tuple => k_is); (case z_zip => k_is)
