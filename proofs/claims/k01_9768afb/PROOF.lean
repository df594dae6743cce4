import PyProof.Rows.All
import Wide.All
import OpenK.AllK
import Wide.FinOn
import HandS.Base
import HandS.Call
import HandS.List
import HandS.Comp
import HandS.Ends
import HandS.Dict
import HandS.Iter
import HandS.Text
import HandS.Words
import HandS.WordsList
import HandS.WordsDict
import HandS.IsInst
import HandS.Zip
import HandS.Conv
import HandS.Walk
import HandS.Style
import HandS.TupAny
import HandS.TupMul
import PySem.Challenge.RW_opencalls_k01_rests
set_option Elab.async false
set_option linter.all false
set_option maxRecDepth 100000
namespace OC
open PySem PySem.Spec PyProof.Rows L2

/-! ### defs and their promises, by name -/
structure Df (K : PySem.W.Frag) (mg : Str → Option Value) (x : Str) (st : Stmt) (ps : List Str) : Prop where
  ex : ∃ (f : Addr) (fd : FuncData), Fun K x x st f fd ∧ Binds K fd ps [] ∧ mg x = some (.ref f)
structure Ok (P : Program) (w : World) (K : PySem.W.Frag) (mg : Str → Option Value) (base : Heap) (k : Nat) (x : Str) (ps : List Str) (sp : Sp) : Prop where
  ex : ∃ (f : Addr) (fd : FuncData), FnOk P w K mg base CX0 k f fd ps sp ∧ mg x = some (.ref f) ∧ PySem.W.keepIn K (.ref f) = true ∧ Binds K fd ps []
section
variable {P : Program} {w : World} {K : PySem.W.Frag} {mg : Str → Option Value} {base : Heap}
theorem Df.ok {x : Str} {st : Stmt} {N ps : List Str} {k : Nat} {sp : Sp} (D : Df K mg x st ps) (S : FnScope N ps (defScope st)) (len : ∀ vs H Q E, sp vs H Q E → vs.length = ps.length)
    (hbody : ∀ (f : Addr) (cdv : Value) (A : Around) (outer : List Env) (s : Shared) (H : Hp) (vs : List V) (Q : VK) (E : XK), Room k (A.deeper (envOfC x (defScope st) s.heap.objs.size f cdv)) → sp vs H Q E →
      ∃ t, PSs (cxOf CX0 P w K mg base N x (defScope st) f cdv A outer s H E).nox (defBody st) t ∧ t { nx := fun _ H' => Q .non H', rt := Q } (start N vs) H) : Ok P w K mg base (k + 1) x ps sp := by
  obtain ⟨f, fd, F, b, g⟩ := D.ex
  exact ⟨f, fd, F.ok S len (hbody f), g, F.kp, b⟩
theorem Ok.mono {x : Str} {ps : List Str} {j k : Nat} {sp : Sp} (O : Ok P w K mg base j x ps sp) (h : j ≤ k) : Ok P w K mg base k x ps sp := by
  obtain ⟨f, fd, F, r⟩ := O.ex
  exact ⟨f, fd, F.mono h, r⟩
theorem Ok.imp {x : Str} {ps : List Str} {k : Nat} {sp sp' : Sp} (O : Ok P w K mg base k x ps sp) (h : ∀ vs H Q E, sp' vs H Q E → sp vs H Q E) : Ok P w K mg base k x ps sp' := by
  obtain ⟨f, fd, F, r⟩ := O.ex
  exact ⟨f, fd, F.imp h, r⟩
end
section
variable {X : Cx} {x : Str} {ps : List Str} {k : Nat} {sp : Sp}
theorem pe_callO {e : Expr} {es : List Expr} {t : TA} {p pos : Pos} (O : Ok X.prog X.w X.K X.mg X.base k x ps sp) (hr : Room k X.A) (hg : Gl X x) (ha : PA X (e :: es) t) (hdb : (x == ("__debug__" : Str)) = false := by decide)
    (he : starEach (e :: es) X.env = (false, eval e X.env) :: starEach es X.env := by rfl) (hpl : (backTo pos (starEach es X.env)).any (·.1) = false := by rfl) :
    PE X (.Call (.Name x p) (e :: es) [] pos) (tCall sp [] E0 t) := by
  obtain ⟨f, fd, F, g, kp, b⟩ := O.ex
  exact pe_call F hr hg g kp b .nil pass0 ha hdb he hpl
theorem pe_callO0 {p pos : Pos} (O : Ok X.prog X.w X.K X.mg X.base k x ps sp) (hr : Room k X.A) (hg : Gl X x) (hdb : (x == ("__debug__" : Str)) = false := by decide) :
    PE X (.Call (.Name x p) [] [] pos) (tCall sp [] E0 tNil) := by
  obtain ⟨f, fd, F, g, kp, b⟩ := O.ex
  exact pe_call0 F hr hg g kp b .nil pass0 hdb
end
/-! ### from the head's facts -/
theorem df_of {K : PySem.W.Frag} {h : Heap} {mg : Str → Option Value} {x : Str} {st : Stmt} {ps : List Str} {f : Addr} {oc : Value} {od an : Option Addr} {osl : Array (Option Value)} {kV doc pm cdv ct : Value} (X : K.In h) (G : h.Ns mainGlobals mg)
    (a : PySem.W.nsIn K mainGlobals x = some (some (.ref f)))
    (l : K.lookup f = some ⟨oc, od, .func (PySem.W.fnOf x x (defArgs st) (defBody st) (defScope st) .none kV doc pm an cdv ct), osl⟩)
    (c : PySem.W.codeIn K cdv x = true) (k : PySem.W.keepIn K (.ref f) = true)
    (hb : ∀ (kV doc pm : Value) (an : Option Addr) (cdv ct : Value) (us : List Value), us.length = ps.length → bindArgs (PySem.W.fnOf x x (defArgs st) (defBody st) (defScope st) .none kV doc pm an cdv ct) ⟨us, []⟩ = pure (ps.zip us)) :
    Df K mg x st ps := by
  have F := fun_mk (st := st) l c k
  exact ⟨f, _, F, F.binds hb, PySem.W.mg_of X G a⟩
end OC

set_option Elab.async false
set_option linter.all false
set_option maxRecDepth 100000
namespace OC
open PySem PySem.Spec PyProof.Rows L2

/-! ### kinds of values -/
inductive Kd where
  | non | bl | int | str | lst | tup | dct
  deriving DecidableEq
def Kd.name : Kd → String
  | .non => "NoneType" | .bl => "bool" | .int => "int" | .str => "str" | .lst => "list" | .tup => "tuple" | .dct => "dict"
def KdOf (K : PySem.W.Frag) (H : Hp) (v : V) (k : Kd) : Prop := TyX K H v (.type k.name)
section
variable {K : PySem.W.Frag} {H : Hp}
theorem kd_int (i : Int) : KdOf K H (.int i) .int := .base (.int i)
theorem kd_bl (b : Bool) : KdOf K H (.bl b) .bl := .base (.bl b)
theorem kd_non : KdOf K H .non .non := .base .non
theorem kd_str (x : Str) : KdOf K H (.str x) .str := .base (.str x)
theorem kd_tup {a : Addr} {xs : List V} (h : SqT K H a xs) : KdOf K H (.ref a) .tup := by
  rcases h with (h | ⟨o, h⟩) | ⟨o, its, n, h, c, _⟩
  · exact .base (.tup h)
  · exact .fTuple h
  · exact .kTuple h c
theorem kd_lst {a : Addr} {xs : List V} (h : SqL K H a xs) : KdOf K H (.ref a) .lst := by
  rcases h with (h | ⟨o, h⟩) | ⟨o, its, n, h, c, _⟩
  · exact .base (.lst h)
  · exact .base (.frz h)
  · exact .kList h c
theorem kd_dct {a : Addr} {kvs : List (Key × V)} (h : H a = some (.dK kvs)) : KdOf K H (.ref a) .dct := .base (.dK h)
theorem kit_int (k : Kd) : PySem.W.kitOne K (.type k.name) (.type "int") = some (decide (k = .int) || decide (k = .bl)) := by
  cases k <;> exact kit_ty (by decide +kernel)
theorem kit_bool (k : Kd) : PySem.W.kitOne K (.type k.name) (.type "bool") = some (decide (k = .bl)) := by
  cases k <;> exact kit_ty (by decide +kernel)
theorem kit_tuple (k : Kd) : PySem.W.kitOne K (.type k.name) (.type "tuple") = some (decide (k = .tup)) := by
  cases k <;> exact kit_ty (by decide +kernel)
theorem kit_str (k : Kd) : PySem.W.kitOne K (.type k.name) (.type "str") = some (decide (k = .str)) := by
  cases k <;> exact kit_ty (by decide +kernel)
theorem kd_is_int {v : V} {k : Kd} (h : KdOf K H v k) (e : k = .int) : ∃ i, v = .int i := by
  subst e
  generalize hx : (Value.type (Kd.name .int)) = t at h
  unfold KdOf at h
  rw [hx] at h
  cases h with
  | base h => cases h with
    | int i => exact ⟨i, rfl⟩
    | ins => cases hx
    | _ => exact absurd (Value.type.inj hx) (by decide)
  | _ => exact absurd (Value.type.inj hx) (by decide)
end

/-! ### heaps -/
theorem same_upd {H : Hp} {p : Addr} {o : HO} (h : H p = none) : Same H (upd H p o) := fun b x e => by
  rw [upd_ne (ne_of_none e h)]
  exact e
theorem same_mut {H H' : Hp} {p : Addr} {o : HO} (e : Same H H') (h : H p = none) : Same H (upd H' p o) := fun b x q => by
  rw [upd_ne (ne_of_none q h)]
  exact e b x q
theorem Same.tup {K : PySem.W.Frag} {H H' : Hp} {a : Addr} {xs : List V} (e : Same H H') (h : SqT K H a xs) : SqT K H' a xs := by
  rcases h with (h | ⟨o, h⟩) | h
  · exact .inl (.inl (e _ _ h))
  · exact .inl (.inr ⟨o, e _ _ h⟩)
  · exact .inr h
/-- all but the deck's two lists stays -/
def Kept (d c : Addr) (H H' : Hp) : Prop := ∀ b o, H b = some o → b ≠ d → b ≠ c → H' b = some o
theorem Kept.refl (d c : Addr) (H : Hp) : Kept d c H H := fun _ _ h _ _ => h
theorem Kept.trans {d c : Addr} {H H1 H2 : Hp} (a : Kept d c H H1) (b : Kept d c H1 H2) : Kept d c H H2 := fun x o h n m => b x o (a x o h n m) n m
theorem Kept.of {d c : Addr} {H H' : Hp} (a : Same H H') : Kept d c H H' := fun x o h _ _ => a x o h
/-- the deck: a list of the cells' list and the count of draws -/
structure Deck (H : Hp) (d c : Addr) (t : Int) : Prop where
  hd : H d = some (.lst [.ref c, .int t])
  hc : ∃ cells : List Int, H c = some (.lst (cells.map V.int)) ∧ (∀ x ∈ cells, 0 ≤ x) ∧ cells.length ≤ 63
  ne : c ≠ d
  t0 : 0 ≤ t
theorem Deck.same {H H' : Hp} {d c : Addr} {t : Int} (D : Deck H d c t) (s : Same H H') : Deck H' d c t := by
  obtain ⟨hd, ⟨cells, h1, h2⟩, n, t0⟩ := D
  exact ⟨s _ _ hd, ⟨cells, s _ _ h1, h2⟩, n, t0⟩
theorem Kept.tup {K : PySem.W.Frag} {d c : Addr} {t : Int} {H H' : Hp} {a : Addr} {xs : List V} (D : Deck H d c t) (e : Kept d c H H') (h : SqT K H a xs) : SqT K H' a xs := by
  obtain ⟨hd, ⟨cells, h1, h2⟩, n, t0⟩ := D
  rcases h with (h | ⟨o, h⟩) | h
  · exact .inl (.inl (e _ _ h (fun z => by subst z; rw [hd] at h; cases h) (fun z => by subst z; rw [h1] at h; cases h)))
  · exact .inl (.inr ⟨o, e _ _ h (fun z => by subst z; rw [hd] at h; cases h) (fun z => by subst z; rw [h1] at h; cases h)⟩)
  · exact .inr h
theorem at_int {xs : List Int} {z : Int} (h0 : 0 ≤ z) (h1 : z < (xs.length : Int)) : ∃ x, x ∈ xs ∧ xs[z.toNat]? = some x ∧ atI (xs.map V.int) z = some (.int x) := by
  have hl : z.toNat < xs.length := by omega
  refine ⟨xs[z.toNat], List.getElem_mem hl, List.getElem?_eq_getElem hl, ?_⟩
  refine at_of (j := z.toNat) (by omega) ?_
  rw [List.getElem?_map, List.getElem?_eq_getElem hl]
  rfl
theorem ix_nat {n : Nat} {z : Int} (h0 : 0 ≤ z) (h1 : z < (n : Int)) : ixN n z = some z.toNat := by
  unfold ixN
  rw [if_pos h0, if_pos h1]
theorem in_ints (i : Int) (xs : List Int) : inV (.int i) (xs.map V.int) = decide (i ∈ xs) := by
  unfold inV
  induction xs with
  | nil => simp
  | cons x r ih =>
    rw [List.map_cons, List.any_cons, ih]
    by_cases e : x = i
    · subst e; simp [eqV]
    · have : ¬ i = x := fun q => e q.symm
      simp [eqV, e, this]
end OC

set_option Elab.async false
set_option linter.all false
set_option maxRecDepth 100000
namespace OC
open PySem PySem.Spec PyProof.Rows L2

/-! ### data kept -/
mutual
theorem dp_same {K : PySem.W.Frag} {H H' : Hp} (e : Same H H') : ∀ (d : PyData) (v : V), Dp K H v d → Dp K H' v d
  | .none, _, h => by cases h; exact .non
  | .bool b, _, h => by cases h; exact .bl b
  | .int i, _, h => by cases h; exact .int i
  | .str x, _, h => by cases h; exact .str x
  | .list ds, _, h => by
    cases h with
    | lst hs ha => exact .lst (e.seq hs) (dpAll_same e ds _ ha)
  | .tuple ds, _, h => by
    cases h with
    | tup hs ha => exact .tup (Same.tup e hs) (dpAll_same e ds _ ha)
  | .dict _, _, h => by cases h
theorem dpAll_same {K : PySem.W.Frag} {H H' : Hp} (e : Same H H') : ∀ (ds : List PyData) (vs : List V), DpAll K H vs ds → DpAll K H' vs ds
  | [], _, h => by cases h; exact .nil
  | d :: ds, _, h => by
    cases h with
    | cons h1 h2 => exact .cons (dp_same e d _ h1) (dpAll_same e ds _ h2)
end
theorem dpAll_len {K : PySem.W.Frag} {H : Hp} : ∀ {vs : List V} {ds : List PyData}, DpAll K H vs ds → vs.length = ds.length
  | _, _, .nil => rfl
  | _, _, .cons _ t => by rw [List.length_cons, List.length_cons, dpAll_len t]
theorem dpAll_get {K : PySem.W.Frag} {H : Hp} : ∀ {vs : List V} {ds : List PyData} {i : Nat} {v : V}, DpAll K H vs ds → vs[i]? = some v → ∃ d, ds[i]? = some d ∧ d ∈ ds ∧ Dp K H v d
  | _, _, i, v, .nil, e => by simp at e
  | _, _, 0, v, .cons h t, e => by
    have e : _ = v := Option.some.inj e
    subst e
    exact ⟨_, rfl, List.mem_cons_self, h⟩
  | _, _, i + 1, v, .cons h t, e => by
    obtain ⟨d, h1, h2, h3⟩ := dpAll_get (i := i) (v := v) t e
    exact ⟨d, h1, List.mem_cons_of_mem _ h2, h3⟩
theorem dpAll_ints {K : PySem.W.Frag} {H : Hp} : ∀ ns : List Int, DpAll K H (ns.map V.int) (ns.map PyData.int)
  | [] => .nil
  | n :: r => .cons (.int n) (dpAll_ints r)
theorem dpAll_nth {K : PySem.W.Frag} {H : Hp} : ∀ {vs : List V} {ds : List PyData}, vs.length = ds.length → (∀ (i : Nat) (v : V) (d : PyData), vs[i]? = some v → ds[i]? = some d → Dp K H v d) → DpAll K H vs ds
  | [], [], _, _ => .nil
  | [], _ :: _, e, _ => by cases e
  | _ :: _, [], e, _ => by cases e
  | v :: vs, d :: ds, e, h => .cons (h 0 v d rfl rfl) (dpAll_nth (Nat.succ.inj e) fun i v d h1 h2 => h (i + 1) v d h1 h2)

/-! ### any thing, with dicts: its kind -/
mutual
inductive Rep (K : PySem.W.Frag) (H : Hp) (bad : Addr → Prop) : V → PyData → Prop
  | non : Rep K H bad .non .none
  | bl (b : Bool) : Rep K H bad (.bl b) (.bool b)
  | int (i : Int) : Rep K H bad (.int i) (.int i)
  | str (x : Str) : Rep K H bad (.str x) (.str x)
  | lst {a : Addr} {xs : List V} {ds : List PyData} : H a = some (.lst xs) → ¬ bad a → RepAll K H bad xs ds → Rep K H bad (.ref a) (.list ds)
  | tup {a : Addr} {xs : List V} {ds : List PyData} : H a = some (.tup xs) → RepAll K H bad xs ds → Rep K H bad (.ref a) (.tuple ds)
  | dct {a : Addr} {kvs : List (Key × V)} : H a = some (.dK kvs) → Rep K H bad (.ref a) (.dict [])
inductive RepAll (K : PySem.W.Frag) (H : Hp) (bad : Addr → Prop) : List V → List PyData → Prop
  | nil : RepAll K H bad [] []
  | cons {v : V} {vs : List V} {d : PyData} {ds : List PyData} : Rep K H bad v d → RepAll K H bad vs ds → RepAll K H bad (v :: vs) (d :: ds)
end
def kdOf : PyData → Kd
  | .none => .non | .bool _ => .bl | .int _ => .int | .str _ => .str | .list _ => .lst | .tuple _ => .tup | .dict _ => .dct
section
variable {K : PySem.W.Frag} {H : Hp} {bad : Addr → Prop}
theorem Rep.kd : ∀ {v : V} {d : PyData}, Rep K H bad v d → KdOf K H v (kdOf d)
  | _, _, .non => kd_non
  | _, _, .bl b => kd_bl b
  | _, _, .int i => kd_int i
  | _, _, .str x => kd_str x
  | _, _, .lst h _ _ => kd_lst (.inl (.inl h))
  | _, _, .tup h _ => kd_tup (.inl (.inl h))
  | _, _, .dct h => kd_dct h
theorem repAll_len : ∀ {vs : List V} {ds : List PyData}, RepAll K H bad vs ds → vs.length = ds.length
  | _, _, .nil => rfl
  | _, _, .cons _ t => by rw [List.length_cons, List.length_cons, repAll_len t]
theorem repAll_get : ∀ {vs : List V} {ds : List PyData} {i : Nat} {v : V}, RepAll K H bad vs ds → vs[i]? = some v → ∃ d, ds[i]? = some d ∧ d ∈ ds ∧ Rep K H bad v d
  | _, _, i, v, .nil, e => by simp at e
  | _, _, 0, v, .cons h t, e => by
    have e : _ = v := Option.some.inj e
    subst e
    exact ⟨_, rfl, List.mem_cons_self, h⟩
  | _, _, i + 1, v, .cons h t, e => by
    obtain ⟨d, h1, h2, h3⟩ := repAll_get (i := i) (v := v) t e
    exact ⟨d, h1, List.mem_cons_of_mem _ h2, h3⟩
theorem repAll_append : ∀ {xs ys : List V} {ds es : List PyData}, RepAll K H bad xs ds → RepAll K H bad ys es → RepAll K H bad (xs ++ ys) (ds ++ es)
  | _, _, _, _, .nil, h => h
  | _, _, _, _, .cons h t, g => .cons h (repAll_append t g)
theorem repAll_ints : ∀ ns : List Int, RepAll K H bad (ns.map V.int) (ns.map PyData.int)
  | [] => .nil
  | n :: r => .cons (.int n) (repAll_ints r)
end
/-- what stays of things: tuples and dicts all, lists but the bad ones -/
structure Stays (bad : Addr → Prop) (H H' : Hp) : Prop where
  t : ∀ a xs, H a = some (.tup xs) → H' a = some (.tup xs)
  d : ∀ a kvs, H a = some (.dK kvs) → H' a = some (.dK kvs)
  l : ∀ a xs, H a = some (.lst xs) → ¬ bad a → H' a = some (.lst xs)
theorem Stays.of {bad : Addr → Prop} {H H' : Hp} (s : Same H H') : Stays bad H H' := ⟨fun _ _ h => s _ _ h, fun _ _ h => s _ _ h, fun _ _ h _ => s _ _ h⟩
theorem Stays.trans {bad : Addr → Prop} {H H1 H2 : Hp} (a : Stays bad H H1) (b : Stays bad H1 H2) : Stays bad H H2 := ⟨fun x y h => b.t x y (a.t x y h), fun x y h => b.d x y (a.d x y h), fun x y h n => b.l x y (a.l x y h n) n⟩
theorem Stays.kept {d c : Addr} {t : Int} {H H' : Hp} (D : Deck H d c t) (k : Kept d c H H') : Stays (fun a => a = d ∨ a = c) H H' := by
  obtain ⟨hd, ⟨cells, h1, h2⟩, n, t0⟩ := D
  refine ⟨fun a xs h => k a _ h (fun z => ?_) (fun z => ?_), fun a xs h => k a _ h (fun z => ?_) (fun z => ?_), fun a xs h nb => k a _ h (fun z => nb (.inl z)) (fun z => nb (.inr z))⟩
  · subst z; rw [hd] at h; cases h
  · subst z; rw [h1] at h; cases h
  · subst z; rw [hd] at h; cases h
  · subst z; rw [h1] at h; cases h
mutual
theorem rep_stays {K : PySem.W.Frag} {bad : Addr → Prop} {H H' : Hp} (e : Stays bad H H') : ∀ (d : PyData) (v : V), Rep K H bad v d → Rep K H' bad v d
  | .none, _, h => by cases h; exact .non
  | .bool b, _, h => by cases h; exact .bl b
  | .int i, _, h => by cases h; exact .int i
  | .str x, _, h => by cases h; exact .str x
  | .list ds, _, h => by
    cases h with
    | lst hs hb ha => exact .lst (e.l _ _ hs hb) hb (repAll_stays e ds _ ha)
  | .tuple ds, _, h => by
    cases h with
    | tup hs ha => exact .tup (e.t _ _ hs) (repAll_stays e ds _ ha)
  | .dict _, _, h => by
    cases h with
    | dct hs => exact .dct (e.d _ _ hs)
theorem repAll_stays {K : PySem.W.Frag} {bad : Addr → Prop} {H H' : Hp} (e : Stays bad H H') : ∀ (ds : List PyData) (vs : List V), RepAll K H bad vs ds → RepAll K H' bad vs ds
  | [], _, h => by cases h; exact .nil
  | d :: ds, _, h => by
    cases h with
    | cons h1 h2 => exact .cons (rep_stays e d _ h1) (repAll_stays e ds _ h2)
end

/-! ### zip of two tuples, walked -/
theorem walk_zipT {K : PySem.W.Frag} {a b : Addr} {xs ys : List V} {n : Nat} (hn : n = min xs.length ys.length) : Walk (RZ.ItzT K a b) n (fun H => SqT K H a xs ∧ SqT K H b ys) (YPair (fun i => xs[i]?) (fun i => ys[i]?)) where
  goes i H hi q := by
    have hx : i < xs.length := by rw [hn] at hi; exact Nat.lt_of_lt_of_le hi (Nat.min_le_left _ _)
    have hy : i < ys.length := by rw [hn] at hi; exact Nat.lt_of_lt_of_le hi (Nat.min_le_right _ _)
    exact ⟨xs, ys, _, _, q.1, q.2, List.getElem?_eq_getElem hx, List.getElem?_eq_getElem hy⟩
  stops H q := ⟨xs, ys, q.1, q.2, by rw [hn]; omega⟩
  yields i H v H' _ q y := by
    obtain ⟨T, x, z, ev, nT, eH, gx, gz⟩ := y
    exact ⟨T, x, z, ev, nT, eH, gx xs q.1, gz ys q.2⟩

/-! ### the same: two things of one data -/
/-- a thing that is no tuple -/
def Sc : PyData → Prop
  | .none => True | .bool _ => True | .int _ => True | .str _ => True | _ => False
def Lv (L : PyData → Prop) (d : PyData) : Prop := Sc d ∨ ∃ ds, d = .tuple ds ∧ ds.length ≤ 1000 ∧ ∀ x ∈ ds, L x
def sp_same (K : PySem.W.Frag) (L : PyData → Prop) : Sp := fun vs H Q _ => ∃ (v u : V) (d : PyData), vs = [v, u] ∧ Dp K H v d ∧ Dp K H u d ∧ L d ∧ ∀ H', Same H H' → Q (.bl true) H'
/-- no call of it is promised anything -/
theorem ok_never {P : Program} {w : World} {K : PySem.W.Frag} {mg : Str → Option Value} {base : Heap} {x : Str} {st : Stmt} {N ps : List Str} (D : Df K mg x st ps) (S : FnScope N ps (defScope st)) (L : PyData → Prop) (hL : ∀ d, ¬ L d) (hp : ps.length = 2) : Ok P w K mg base 1 x ps (sp_same K L) :=
  D.ok S (fun vs H Q E h => by obtain ⟨v, u, d, rfl, _⟩ := h; exact hp.symm) fun f cdv A outer s H vs Q E hr h => by
    obtain ⟨v, u, d, _, _, _, h, _⟩ := h
    exact (hL d h).elim
/-- the kind of data -/
theorem dp_kd {K : PySem.W.Frag} {H : Hp} : ∀ {v : V} {d : PyData}, Dp K H v d → KdOf K H v (kdOf d)
  | _, _, .non => kd_non
  | _, _, .bl b => kd_bl b
  | _, _, .int i => kd_int i
  | _, _, .str x => kd_str x
  | _, _, .lst h _ => kd_lst h
  | _, _, .tup h _ => kd_tup h
end OC

set_option Elab.async false
set_option linter.all false
set_option maxRecDepth 100000
namespace OC
open PySem PySem.Spec PyProof.Rows L2
def topS (i : Nat) : Stmt := PySem.Challenge.pw_opencalls_k01_rests.main.body.getD i (.Pass ⟨0, 0, 0, 0⟩)
abbrev s_is_number : Stmt := topS 2
abbrev N_is_number : List Str := ["thing"]
theorem sc_is_number : FnScope N_is_number ["thing"] (defScope s_is_number) := ⟨rfl, rfl, rfl, by decide +kernel, rfl, by decide +kernel, by decide +kernel⟩
abbrev s_is_prime : Stmt := topS 3
abbrev N_is_prime : List Str := ["thing"]
theorem sc_is_prime : FnScope N_is_prime ["thing"] (defScope s_is_prime) := ⟨rfl, rfl, rfl, by decide +kernel, rfl, by decide +kernel, by decide +kernel⟩
abbrev s_contrary : Stmt := topS 4
abbrev N_contrary : List Str := ["p", "a", "b"]
theorem sc_contrary : FnScope N_contrary ["p", "a"] (defScope s_contrary) := ⟨rfl, rfl, rfl, by decide +kernel, rfl, by decide +kernel, by decide +kernel⟩
abbrev s__law_deck : Stmt := topS 6
abbrev N__law_deck : List Str := ["_law_script", "_law_cell"]
theorem sc__law_deck : FnScope N__law_deck ["_law_script"] (defScope s__law_deck) := ⟨rfl, rfl, rfl, by decide +kernel, rfl, by decide +kernel, by decide +kernel⟩
abbrev s__law_draw : Stmt := topS 7
abbrev N__law_draw : List Str := ["_law_deck_here", "_law_many", "_law_cell", "_law_place"]
theorem sc__law_draw : FnScope N__law_draw ["_law_deck_here", "_law_many"] (defScope s__law_draw) := ⟨rfl, rfl, rfl, by decide +kernel, rfl, by decide +kernel, by decide +kernel⟩
abbrev s__law_whole : Stmt := topS 8
abbrev N__law_whole : List Str := ["_law_thing"]
theorem sc__law_whole : FnScope N__law_whole ["_law_thing"] (defScope s__law_whole) := ⟨rfl, rfl, rfl, by decide +kernel, rfl, by decide +kernel, by decide +kernel⟩
abbrev s__law_same : Stmt := topS 9
abbrev N__law_same : List Str := ["_law_found", "_law_due", "_law_one", "_law_other"]
theorem sc__law_same : FnScope N__law_same ["_law_found", "_law_due"] (defScope s__law_same) := ⟨rfl, rfl, rfl, by decide +kernel, rfl, by decide +kernel, by decide +kernel⟩
abbrev s__law_odd : Stmt := topS 10
abbrev N__law_odd : List Str := ["_law_deck_here", "_law_p", "_law_some"]
theorem sc__law_odd : FnScope N__law_odd ["_law_deck_here", "_law_p"] (defScope s__law_odd) := ⟨rfl, rfl, rfl, by decide +kernel, rfl, by decide +kernel, by decide +kernel⟩
abbrev s__law_primes : Stmt := topS 11
abbrev N__law_primes : List Str := ["_law_found", "_law_number", "_law_part"]
theorem sc__law_primes : FnScope N__law_primes [] (defScope s__law_primes) := ⟨rfl, rfl, rfl, by decide +kernel, rfl, by decide +kernel, by decide +kernel⟩
abbrev s__law_contrary_right : Stmt := topS 12
abbrev N__law_contrary_right : List Str := ["_law_p", "_law_a", "_law_found"]
theorem sc__law_contrary_right : FnScope N__law_contrary_right ["_law_p", "_law_a"] (defScope s__law_contrary_right) := ⟨rfl, rfl, rfl, by decide +kernel, rfl, by decide +kernel, by decide +kernel⟩
abbrev s_law : Stmt := topS 13
abbrev N_law : List Str := ["_law_script", "_law_deck_here", "_law_primes_here", "_law_things", "_law_k", "_law_thing", "_law_due", "_law_turn", "_law_p", "_law_a"]
theorem sc_law : FnScope N_law ["_law_script"] (defScope s_law) := ⟨rfl, rfl, rfl, by decide +kernel, rfl, by decide +kernel, by decide +kernel⟩
def PR : List Int := [5, 7, 11, 13, 17, 19, 23, 29, 31, 37, 41, 43, 47, 53, 59, 61, 67, 71, 73, 79, 83, 89, 97, 101]
structure Top (K : PySem.W.Frag) (mg : Str → Option Value) : Prop where
  b_abs : mg "abs" = none
  b_all : mg "all" = none
  b_bool : mg "bool" = none
  b_int : mg "int" = none
  b_isinstance : mg "isinstance" = none
  b_len : mg "len" = none
  b_list : mg "list" = none
  b_range : mg "range" = none
  b_str : mg "str" = none
  b_tuple : mg "tuple" = none
  b_zip : mg "zip" = none
  d_is_number : Df K mg "is_number" s_is_number ["thing"]
  d_is_prime : Df K mg "is_prime" s_is_prime ["thing"]
  d_contrary : Df K mg "contrary" s_contrary ["p", "a"]
  d__law_deck : Df K mg "_law_deck" s__law_deck ["_law_script"]
  d__law_draw : Df K mg "_law_draw" s__law_draw ["_law_deck_here", "_law_many"]
  d__law_whole : Df K mg "_law_whole" s__law_whole ["_law_thing"]
  d__law_same : Df K mg "_law_same" s__law_same ["_law_found", "_law_due"]
  d__law_odd : Df K mg "_law_odd" s__law_odd ["_law_deck_here", "_law_p"]
  d__law_primes : Df K mg "_law_primes" s__law_primes []
  d__law_contrary_right : Df K mg "_law_contrary_right" s__law_contrary_right ["_law_p", "_law_a"]
  primes : ∃ a, mg "PRIMES" = some (.ref a) ∧ ∀ H : Hp, SqT K H a (PR.map V.int)
section
variable {P : Program} {w : World} {K : PySem.W.Frag} {mg : Str → Option Value} {base : Heap}

/-! ### is it a whole number -/
def sp_whole (K : PySem.W.Frag) : Sp := fun vs H Q _ => ∃ (v : V) (k : Kd), vs = [v] ∧ KdOf K H v k ∧ Q (.bl (decide (k = .int))) H
theorem ok_is_number (T : Top K mg) : Ok P w K mg base 1 "is_number" ["thing"] (sp_whole K) := by
  refine T.d_is_number.ok sc_is_number (fun vs H Q E h => ?_) (fun f cdv A outer s H vs Q E hr h => ?_)
  · obtain ⟨v, k, rfl, _⟩ := h
    rfl
  · obtain ⟨v, k, rfl, ty, q⟩ := h
    refine ⟨_, ((pss_one (ps_ret (pe_and (pe_callB call_isi (by rfl) T.b_isinstance (by decide +kernel) (pa_cons (pv 0) (pa_cons (pe_bltn (v := .ty "int") (u := .type "int") (by rfl) T.b_int (by decide +kernel) rfl) pa_nil))) (pe_one (pe_not (pe_callB call_isi (by rfl) T.b_isinstance (by decide +kernel) (pa_cons (pv 0) (pa_cons (pe_bltn (v := .ty "bool") (u := .type "bool") (by rfl) T.b_bool (by decide +kernel) rfl) pa_nil))))))))), ?_⟩
    refine ⟨v, rfl, v, .ty "int", _, _, _, rfl, .ty "int", ty, kit_int k, _, rfl, ?_⟩
    cases k <;> first | exact q | exact ⟨v, rfl, v, .ty "bool", _, _, _, rfl, .ty "bool", ty, kit_bool _, _, rfl, q⟩
theorem ok__law_whole (T : Top K mg) : Ok P w K mg base 1 "_law_whole" ["_law_thing"] (sp_whole K) := by
  refine T.d__law_whole.ok sc__law_whole (fun vs H Q E h => ?_) (fun f cdv A outer s H vs Q E hr h => ?_)
  · obtain ⟨v, k, rfl, _⟩ := h
    rfl
  · obtain ⟨v, k, rfl, ty, q⟩ := h
    refine ⟨_, ((pss_one (ps_ret (pe_and (pe_callB call_isi (by rfl) T.b_isinstance (by decide +kernel) (pa_cons (pv 0) (pa_cons (pe_bltn (v := .ty "int") (u := .type "int") (by rfl) T.b_int (by decide +kernel) rfl) pa_nil))) (pe_one (pe_not (pe_callB call_isi (by rfl) T.b_isinstance (by decide +kernel) (pa_cons (pv 0) (pa_cons (pe_bltn (v := .ty "bool") (u := .type "bool") (by rfl) T.b_bool (by decide +kernel) rfl) pa_nil))))))))), ?_⟩
    refine ⟨v, rfl, v, .ty "int", _, _, _, rfl, .ty "int", ty, kit_int k, _, rfl, ?_⟩
    cases k <;> first | exact q | exact ⟨v, rfl, v, .ty "bool", _, _, _, rfl, .ty "bool", ty, kit_bool _, _, rfl, q⟩

/-! ### is_prime, contrary -/
def isPr : V → Bool
  | .int i => decide (i ∈ PR)
  | _ => false
def sp_is_prime (K : PySem.W.Frag) : Sp := fun vs H Q _ => ∃ (v : V) (k : Kd), vs = [v] ∧ KdOf K H v k ∧ Q (.bl (decide (k = .int) && isPr v)) H
theorem ok_is_prime (T : Top K mg) : Ok P w K mg base 2 "is_prime" ["thing"] (sp_is_prime K) := by
  have O_is_number := ok_is_number (P := P) (w := w) (base := base) T
  obtain ⟨aP, gP, hP⟩ := T.primes
  refine T.d_is_prime.ok sc_is_prime (fun vs H Q E h => ?_) (fun f cdv A outer s H vs Q E hr h => ?_)
  · obtain ⟨v, k, rfl, _⟩ := h
    rfl
  · obtain ⟨v, k, rfl, ty, q⟩ := h
    refine ⟨_, ((pss_one (ps_ret (pe_and (pe_callO O_is_number (hr.mono (by omega)) (by rfl) (pa_cons (pv 0) pa_nil)) (pe_one (pe_cmpR op_in_seq (pv 0) (pe_glob (v := .ref aP) (by rfl) gP rfl) (by rfl))))))), ?_⟩
    refine ⟨v, rfl, v, k, rfl, ty, _, rfl, ?_⟩
    by_cases e : k = .int
    · obtain ⟨i, rfl⟩ := kd_is_int ty e
      rw [decide_eq_true e] at q ⊢
      refine iteT ⟨.int i, rfl, aP, _, rfl, .inr (hP H), rfl, ?_, ?_⟩
      · rfl
      · rw [in_ints]
        exact q
    · rw [decide_eq_false e] at q ⊢
      exact iteF q
def sp_contrary : Sp := fun vs H Q _ => ∃ p a : Int, vs = [.int p, .int a] ∧ 2 ≤ p ∧ p ≤ 1000 ∧ 0 ≤ a ∧ a < p ∧ (∀ b : Int, 1 ≤ b → b < p → a * b % p = 1 → Q (.int b) H) ∧ ((∀ b : Int, 1 ≤ b → b < p → a * b % p ≠ 1) → Q .non H)
theorem ok_contrary (T : Top K mg) : Ok P w K mg base 1 "contrary" ["p", "a"] sp_contrary := by
  refine T.d_contrary.ok sc_contrary (fun vs H Q E h => ?_) (fun f cdv A outer s H vs Q E hr h => ?_)
  · obtain ⟨p, a, rfl, _⟩ := h
    rfl
  · obtain ⟨p, a, rfl, h1, h2, h3, h4, q1, q2⟩ := h
    refine ⟨_, ((pss_cons (ps_for PassesOwn.never (by rfl) (pi_range2 (by rfl) T.b_range (pa_cons pe_int (pa_cons (pv 0) pa_nil))) (pg_name (i := 2) sc_contrary.nd rfl (.inl rfl))
        (pss_one (ps_if (pt_cmpR op_eq (pe_op op_mod (pe_op op_mul (pv 1) (pv 2)) (pv 0)) pe_int (nomark _))
          (pss_one (ps_ret (pv 2)))
          pss_nil)))
      (pss_one (ps_ret pe_non)))), ?_⟩
    refine ⟨.int p, rfl, 1, p, rfl, ⟨by omega, by omega, by omega, by omega⟩, for_range (lo := 1) (n := (p - 1).toNat) (fun i σ H' => H' = H ∧ (∃ y, σ = [some (.int p), some (.int a), y]) ∧ ∀ b : Int, 1 ≤ b → b < 1 + i → a * b % p ≠ 1) ⟨rfl, ⟨none, rfl⟩, fun b _ _ => by omega⟩ (fun i σ H' hi hW => ?_) (fun σ H' hW => ?_)⟩
    · obtain ⟨rfl, ⟨y, rfl⟩, hn⟩ := hW
      refine ⟨.int a, rfl, .int (1 + i), rfl, a, 1 + i, rfl, rfl, .inl ⟨by omega, by omega⟩, .int p, rfl, _, p, rfl, rfl, by omega, rfl, _, rfl, ite2 (fun e => ?_) (fun e => ?_)⟩
      · have e1 : a * (1 + i) % p = 1 := V.int.inj (of_decide_eq_true e)
        exact ⟨.int (1 + i), rfl, q1 _ (by omega) (by omega) e1⟩
      · have e1 : a * (1 + i) % p ≠ 1 := fun z => e (decide_eq_true (congrArg V.int z))
        refine ⟨rfl, ⟨_, rfl⟩, fun b hb1 hb2 => ?_⟩
        by_cases z : b = 1 + i
        · subst z; exact e1
        · exact hn b hb1 (by omega)
    · obtain ⟨rfl, ⟨y, rfl⟩, hn⟩ := hW
      exact q2 fun b hb1 hb2 => hn b hb1 (by omega)

/-! ### the deck -/
def sp_deck (K : PySem.W.Frag) : Sp := fun vs H Q _ => ∃ (a : Addr) (ns : List Int), vs = [.ref a] ∧ SqL K H a (ns.map V.int) ∧ ns.length ≤ 63 ∧ ∀ H' d c, Same H H' → Deck H' d c 0 → H d = none → H c = none → Q (.ref d) H'
theorem ok__law_deck (T : Top K mg) : Ok P w K mg base 1 "_law_deck" ["_law_script"] (sp_deck K) := by
  refine T.d__law_deck.ok sc__law_deck (fun vs H Q E h => ?_) (fun f cdv A outer s H vs Q E hr h => ?_)
  · obtain ⟨a, ns, rfl, _⟩ := h
    rfl
  · obtain ⟨a, ns, rfl, hS, hl, q⟩ := h
    refine ⟨_, ((pss_one (ps_ret (pe_lst (pa_cons (pe_lc (own := [("_law_cell", 1)]) (g := gName 1) (by rfl) sc__law_deck.nd (pi_list (pe_slice sl_list (pv 0) po_none (po_some pe_int))) (blkOk_by (own := [("_law_cell", 1)]) (N := N__law_deck) (sc := defScope s__law_deck) (by decide +kernel)) (fun _ _ _ _ _ => (pg_name (i := 1) sc__law_deck.nd rfl (.inl rfl))) (fun _ _ _ _ _ => pts_nil) (fun _ _ _ _ _ => (pe_callB call_abs (by rfl) T.b_abs (by decide +kernel) (pa_cons (pv 1) pa_nil)))) (pa_cons pe_int pa_nil)))))), ?_⟩
    refine ⟨.ref a, rfl, 63, rfl, a, ns.map V.int, rfl, hS, fun l nl => ?_⟩
    have ec : cutV (ns.map V.int) none (some 63) = ns.map V.int := by
      unfold cutV
      rw [HT.sIx_none, show HT.sIx (ns.map V.int).length (ns.map V.int).length (some 63) = min 63 (ns.map V.int).length from HT.sIx_nat _ _ 63]
      rw [List.drop_zero]
      exact List.take_of_length_le (by rw [List.length_map]; omega)
    rw [ec]
    have s1 : Same H (upd H l (.lst (ns.map V.int))) := same_upd nl
    refine ⟨l, rfl, ⟨_, .inl (.inl upd_same)⟩, fun D nD => ?_⟩
    have nl' : H D = none := s1.free nD
    have nDl : l ≠ D := ne_of_none upd_same nD
    refine lc_list (xs := ns.map V.int) (fun i H' => Same H H' ∧ H' l = some (.lst (ns.map V.int)) ∧ H' D = some (.lst ((ns.take i).map fun x => V.int (if x < 0 then -x else x)))) ⟨same_mut s1 nl', ?_, ?_⟩ (fun i H' _ hP => .inl (.inl hP.2.1)) (fun i x H' hx hP => ?_) (fun H' hP => ?_)
    · rw [upd_ne nDl, upd_same]
    · rw [upd_same]; rfl
    · obtain ⟨sm, e1, e2⟩ := hP
      rw [List.getElem?_map] at hx
      cases hn : ns[i]? with
      | none => rw [hn] at hx; cases hx
      | some z =>
        rw [hn] at hx
        have ez : x = V.int z := (Option.some.inj hx).symm
        subst ez
        refine ⟨rfl, .int z, rfl, z, rfl, _, e2, ?_, same_mut sm nl', ?_, ?_⟩
        · rw [List.length_map, List.length_take]
          exact Nat.lt_of_le_of_lt (Nat.min_le_right _ _) (small1000 (by omega))
        · rw [upd_ne nDl]; exact e1
        · rw [upd_same, List.take_add_one, hn, List.map_append]
          rfl
    · obtain ⟨sm, e1, e2⟩ := hP
      rw [List.length_map, List.take_length] at e2
      refine ⟨(by show 2 ≤ sizeLine; decide), fun p np => ?_⟩
      have sp : Same H' (upd H' p (.lst [.ref D, .int 0])) := same_upd np
      refine q _ p D (sm.trans sp) ⟨upd_same, ⟨ns.map fun x => if x < 0 then -x else x, ?_, fun x hx => ?_, by rw [List.length_map]; exact hl⟩, fun z => ?_, by decide⟩ (sm.free np) nl'
      · rw [sp _ _ e2, List.map_map]
        rfl
      · obtain ⟨y, _, rfl⟩ := List.mem_map.mp hx
        by_cases hy : y < 0
        · rw [if_pos hy]; omega
        · rw [if_neg hy]; omega
      · subst z
        rw [e2] at np
        cases np
def sp_draw : Sp := fun vs H Q _ => ∃ (d c : Addr) (t m : Int), vs = [.ref d, .int m] ∧ Deck H d c t ∧ t < 1000000 ∧ 0 < m ∧ m < 1073741824 ∧ ∀ H' r, Kept d c H H' → Deck H' d c (t + 1) → 0 ≤ r → r < m → Q (.int r) H'
theorem ok__law_draw (T : Top K mg) : Ok P w K mg base 1 "_law_draw" ["_law_deck_here", "_law_many"] sp_draw := by
  refine T.d__law_draw.ok sc__law_draw (fun vs H Q E h => ?_) (fun f cdv A outer s H vs Q E hr h => ?_)
  · obtain ⟨d, c, t, m, rfl, _⟩ := h
    rfl
  · obtain ⟨d, c, t, m, rfl, ⟨hd, ⟨cells, hc, hp, hl⟩, hne, ht0⟩, ht, hm0, hm1, q⟩ := h
    refine ⟨_, ((pss_cons (ps_asg (pe_op op_add (pe_ix ix_list (pv 0) pe_int (fun _ _ => rfl)) pe_int) (pg_sub (pv 0) pe_int set_list))
      (pss_cons (ps_set (i := 2) sc__law_draw.nd rfl (.inl rfl) pe_int)
      (pss_cons (ps_set (i := 3) sc__law_draw.nd rfl (.inl rfl) (pe_un un_neg pe_int))
      (pss_cons (ps_if (pt_cmpR op_gt (pe_callB call_len_seq (by rfl) T.b_len (by decide +kernel) (pa_cons (pe_ix ix_list (pv 0) pe_int (fun _ _ => rfl)) pa_nil)) pe_int (nomark _))
        (pss_cons (ps_set (i := 3) sc__law_draw.nd rfl (.inl rfl) (pe_op op_mod (pe_ix ix_list (pv 0) pe_int (fun _ _ => rfl)) (pe_callB call_len_seq (by rfl) T.b_len (by decide +kernel) (pa_cons (pe_ix ix_list (pv 0) pe_int (fun _ _ => rfl)) pa_nil))))
        (pss_one (ps_set (i := 2) sc__law_draw.nd rfl (.inl rfl) (pe_ix ix_list (pe_ix ix_list (pv 0) pe_int (fun _ _ => rfl)) (pv 3) (fun _ _ => rfl)))))
        pss_nil)
      (pss_cons (ps_if (pt_cmpR op_ge (pv 2) (pe_op op_pow pe_int pe_int) (nomark _))
        (pss_cons (ps_asg (pe_op op_fdiv (pv 2) (pv 1)) (pg_sub (pe_ix ix_list (pv 0) pe_int (fun _ _ => rfl)) (pv 3) set_list))
        (pss_one (ps_ret (pe_op op_mod (pv 2) (pv 1)))))
        pss_nil)
      (pss_one (ps_ret (pe_op op_mod (pe_op op_fdiv (pe_op op_mod (pe_op op_pow (pe_op op_add (pe_op op_add (pe_op op_mod (pv 2) pe_int) (pe_op op_mul pe_int (pe_ix ix_list (pv 0) pe_int (fun _ _ => rfl)))) pe_int) pe_int) pe_int) pe_int) (pv 1)))))))))), ?_⟩
    refine ⟨.ref d, rfl, d, _, 1, .int t, rfl, rfl, .inl (.inl hd), rfl, t, 1, rfl, rfl, .ref d, rfl, d, _, 1, 1, rfl, rfl, hd, rfl, ?_⟩
    have hd1 : (upd H d (.lst ([V.ref c, .int t].set 1 (.int (t + 1))))) d = some (.lst [.ref c, .int (t + 1)]) := upd_same
    have hc1 : (upd H d (.lst ([V.ref c, .int t].set 1 (.int (t + 1))))) c = some (.lst (cells.map V.int)) := by
      rw [upd_ne hne]; exact hc
    have k1 : Kept d c H (upd H d (.lst ([V.ref c, .int t].set 1 (.int (t + 1))))) := fun b o h n _ => by
      rw [upd_ne n]; exact h
    generalize upd H d (.lst ([V.ref c, .int t].set 1 (.int (t + 1)))) = H1 at hd1 hc1 k1 ⊢
    have D1 : Deck H1 d c (t + 1) := ⟨hd1, ⟨cells, hc1, hp, hl⟩, hne, by omega⟩
    refine ⟨1, rfl, .ref d, rfl, d, _, 0, .ref c, rfl, rfl, .inl (.inl hd1), rfl, c, _, rfl, .inl (.inl (.inl hc1)), _, 0, rfl, rfl, _, rfl, ite2 (fun e => ?_) (fun e => ?_)⟩
    · have e0 : (0 : Int) < ((cells.map V.int).length : Int) := of_decide_eq_true e
      rw [List.length_map] at e0
      have z0 : 0 ≤ (t + 1) % (cells.length : Int) := Int.emod_nonneg _ (by omega)
      have z1 : (t + 1) % (cells.length : Int) < (cells.length : Int) := Int.emod_lt_of_pos _ e0
      obtain ⟨x, hx, hx2, hx3⟩ := at_int z0 z1
      have x0 := hp x hx
      refine ⟨.ref d, rfl, d, _, 1, .int (t + 1), rfl, rfl, .inl (.inl hd1), rfl, .ref d, rfl, d, _, 0, .ref c, rfl, rfl, .inl (.inl hd1), rfl, c, _, rfl, .inl (.inl (.inl hc1)), t + 1, (cells.length : Int), rfl, by rw [List.length_map], e0, ?_⟩
      refine ⟨.ref d, rfl, d, _, 0, .ref c, rfl, rfl, .inl (.inl hd1), rfl, .int ((t + 1) % (cells.length : Int)), rfl, c, _, _, .int x, rfl, rfl, .inl (.inl hc1), hx3, ?_⟩
      refine ⟨.int x, rfl, 10, 18, rfl, rfl, ⟨by decide, by decide, by decide⟩, _, _, rfl, rfl, _, rfl, ite2 (fun e => ?_) (fun e => ?_)⟩
      · refine ⟨.int x, rfl, .int m, rfl, x, m, rfl, rfl, ⟨hm0, hm1⟩, .ref d, rfl, d, _, 0, .ref c, rfl, rfl, .inl (.inl hd1), rfl, .int ((t + 1) % (cells.length : Int)), rfl, c, _, _, _, rfl, rfl, hc1, ix_nat z0 (by rw [List.length_map]; exact z1), ?_⟩
        refine ⟨.int x, rfl, .int m, rfl, x, m, rfl, rfl, hm0, q _ _ (k1.trans fun b o h _ n => ?_) ⟨?_, ⟨cells.set ((t + 1) % (cells.length : Int)).toNat (x / m), ?_, fun y hy => ?_, ?_⟩, hne, by omega⟩ (Int.emod_nonneg _ (by omega)) (Int.emod_lt_of_pos _ hm0)⟩
        · rw [upd_ne n]; exact h
        · rw [upd_ne (Ne.symm hne)]; exact hd1
        · rw [upd_same, List.map_set]
        · rcases List.mem_or_eq_of_mem_set hy with h | h
          · exact hp y h
          · rw [h]; exact Int.ediv_nonneg x0 (by omega)
        · rw [List.length_set]; exact hl
      · refine ⟨.int x, rfl, x, 2147483587, rfl, rfl, (show (0 : Int) < 2147483587 by decide), .ref d, rfl, d, _, 1, .int (t + 1), rfl, rfl, .inl (.inl hd1), rfl, 7919, t + 1, rfl, rfl, .inl ⟨by decide, by decide⟩, _, _, rfl, rfl, _, 1, rfl, rfl, _, 5, rfl, rfl, ⟨by decide, by decide, ?_⟩, _, 2147483647, rfl, rfl, (show (0 : Int) < 2147483647 by decide), _, 7, rfl, rfl, ⟨by decide, by decide⟩, .int m, rfl, _, m, rfl, rfl, hm0, q _ _ k1 D1 (Int.emod_nonneg _ (by omega)) (Int.emod_lt_of_pos _ hm0)⟩
        have := Int.emod_lt_of_pos x (show (0 : Int) < 2147483587 by decide)
        have := Int.emod_nonneg x (show (2147483587 : Int) ≠ 0 by decide)
        omega
    · refine ⟨.int 0, rfl, 10, 18, rfl, rfl, ⟨by decide, by decide, by decide⟩, _, _, rfl, rfl, _, rfl, ite2 (fun e => absurd (of_decide_eq_true e) (by decide)) (fun e => ?_)⟩
      refine ⟨.int 0, rfl, 0, 2147483587, rfl, rfl, (show (0 : Int) < 2147483587 by decide), .ref d, rfl, d, _, 1, .int (t + 1), rfl, rfl, .inl (.inl hd1), rfl, 7919, t + 1, rfl, rfl, .inl ⟨by decide, by decide⟩, _, _, rfl, rfl, _, 1, rfl, rfl, _, 5, rfl, rfl, ⟨by decide, by decide, ?_⟩, _, 2147483647, rfl, rfl, (show (0 : Int) < 2147483647 by decide), _, 7, rfl, rfl, ⟨by decide, by decide⟩, .int m, rfl, _, m, rfl, rfl, hm0, q _ _ k1 D1 (Int.emod_nonneg _ (by omega)) (Int.emod_lt_of_pos _ hm0)⟩
      omega
end
end OC

set_option Elab.async false
set_option linter.all false
set_option maxRecDepth 100000
namespace OC
open PySem PySem.Spec PyProof.Rows L2
theorem lay_ints : ∀ ns : List Int, PyData.canLayAll0 (ns.map PyData.int) = true
  | [] => by simp only [List.map_nil, PyData.canLayAll0]
  | n :: r => by simp only [List.map_cons, PyData.canLayAll0, PyData.canLay0, lay_ints r, Bool.and_self]
theorem depth_ints : ∀ ns : List Int, PyData.depthAll (ns.map PyData.int) = 0
  | [] => by simp only [List.map_nil, PyData.depthAll]
  | n :: r => by simp only [List.map_cons, PyData.depthAll, PyData.depth, depth_ints r, Nat.max_self]
theorem shaped_ints (ns : List Int) : SeqAt.shaped (.list (ns.map PyData.int)) = true := by
  unfold SeqAt.shaped
  simp only [PyData.canLay0, lay_ints, PyData.depth, depth_ints, Bool.true_and]
  rfl
theorem eqv_nil (ns : List Int) : PyData.eqv (.list (ns.map PyData.int)) (.list []) = decide (ns = []) := by
  cases ns with
  | nil => simp [PyData.eqv, PyData.eqvAll]
  | cons n r => simp [PyData.eqv, PyData.eqvAll]
section
variable {P : Program} {w : World} {K : PySem.W.Frag} {mg : Str → Option Value} {base : Heap}
theorem same_step (T : Top K mg) {k : Nat} {L : PyData → Prop} (O__law_same : Ok P w K mg base (k + 1) "_law_same" ["_law_found", "_law_due"] (sp_same K L)) : Ok P w K mg base (k + 2) "_law_same" ["_law_found", "_law_due"] (sp_same K (Lv L)) := by
  have O__law_whole := ok__law_whole (P := P) (w := w) (base := base) T
  refine T.d__law_same.ok sc__law_same (fun vs H Q E h => ?_) (fun f cdv A outer s H vs Q E hr h => ?_)
  · obtain ⟨v, u, d, rfl, _⟩ := h
    rfl
  · obtain ⟨v, u, d, rfl, hv, hu, hL, q⟩ := h
    refine ⟨_, ((pss_cons (ps_if (pt_val (pe_callB call_isi (by rfl) T.b_isinstance (by decide +kernel) (pa_cons (pv 1) (pa_cons (pe_bltn (v := .ty "tuple") (u := .type "tuple") (by rfl) T.b_tuple (by decide +kernel) rfl) pa_nil))))
        (pss_cons (ps_if (PW.pt (pw_or (pt_not (pt_val (pe_callB call_isi (by rfl) T.b_isinstance (by decide +kernel) (pa_cons (pv 0) (pa_cons (pe_bltn (v := .ty "tuple") (u := .type "tuple") (by rfl) T.b_tuple (by decide +kernel) rfl) pa_nil))))) (pw_or1 (pt_cmpR op_ne (pe_callB call_len_seq (by rfl) T.b_len (by decide +kernel) (pa_cons (pv 0) pa_nil)) (pe_callB call_len_seq (by rfl) T.b_len (by decide +kernel) (pa_cons (pv 1) pa_nil)) (nomark _)))))
          (pss_one (ps_ret pe_bl))
          pss_nil)
        (pss_one (ps_ret (pe_callB (cr_all (by rfl)) (by rfl) T.b_all (by decide +kernel) (pa_cons (pe_lc (own := [("_law_one", 2), ("_law_other", 3)]) (g := gTup K 2 (gCons (gName 2) (gCons (gName 3) gNil))) (by rfl) sc__law_same.nd (RZ.pi_zipA (by rfl) T.b_zip (pa_cons (pv 0) (pa_cons (pv 1) pa_nil))) (blkOk_by (own := [("_law_one", 2), ("_law_other", 3)]) (N := N__law_same) (sc := defScope s__law_same) (by decide +kernel)) (fun _ _ _ _ _ => (pg_tup (by rfl) (pgs_cons (pg_name (i := 2) sc__law_same.nd rfl (.inl rfl)) (pgs_cons (pg_name (i := 3) sc__law_same.nd rfl (.inl rfl)) pgs_nil)))) (fun _ _ _ _ _ => pts_nil) (fun _ _ _ _ _ => (pe_callO O__law_same (hr.mono (by omega)) (by rfl) (pa_cons (pv 2) (pa_cons (pv 3) pa_nil))))) pa_nil)))))
        pss_nil)
      (pss_cons (ps_if (pt_cmpR op_isN (pv 1) pe_non (nomark _))
        (pss_one (ps_ret (pe_cmpR op_isN (pv 0) pe_non (nomark _))))
        pss_nil)
      (pss_cons (ps_if (pt_val (pe_callB call_isi (by rfl) T.b_isinstance (by decide +kernel) (pa_cons (pv 1) (pa_cons (pe_bltn (v := .ty "bool") (u := .type "bool") (by rfl) T.b_bool (by decide +kernel) rfl) pa_nil))))
        (pss_one (ps_ret (pe_and (pe_callB call_isi (by rfl) T.b_isinstance (by decide +kernel) (pa_cons (pv 0) (pa_cons (pe_bltn (v := .ty "bool") (u := .type "bool") (by rfl) T.b_bool (by decide +kernel) rfl) pa_nil))) (pe_one (pe_cmpR op_eq (pv 0) (pv 1) (nomark _))))))
        pss_nil)
      (pss_cons (ps_if (pt_val (pe_callB call_isi (by rfl) T.b_isinstance (by decide +kernel) (pa_cons (pv 1) (pa_cons (pe_bltn (v := .ty "str") (u := .type "str") (by rfl) T.b_str (by decide +kernel) rfl) pa_nil))))
        (pss_one (ps_ret (pe_and (pe_callB call_isi (by rfl) T.b_isinstance (by decide +kernel) (pa_cons (pv 0) (pa_cons (pe_bltn (v := .ty "str") (u := .type "str") (by rfl) T.b_str (by decide +kernel) rfl) pa_nil))) (pe_one (pe_cmpR op_eq (pv 0) (pv 1) (nomark _))))))
        pss_nil)
      (pss_one (ps_ret (pe_and (pe_callO O__law_whole (hr.mono (by omega)) (by rfl) (pa_cons (pv 0) pa_nil)) (pe_one (pe_cmpR op_eq (pv 0) (pv 1) (nomark _))))))))))), ?_⟩
    have tv := dp_kd hv
    have tu := dp_kd hu
    refine ⟨u, rfl, u, .ty "tuple", _, _, _, rfl, .ty "tuple", tu, kit_tuple _, _, rfl, ?_⟩
    rcases hL with hs | ⟨ds, rfl, hsz, hds⟩
    · cases d with
      | none =>
        cases hv
        cases hu
        exact iteF ⟨.non, rfl, rfl, _, rfl, iteT ⟨.non, rfl, rfl, q H (Same.refl H)⟩⟩
      | bool b =>
        cases hv
        cases hu
        refine iteF ⟨.bl b, rfl, rfl, _, rfl, iteF ?_⟩
        refine ⟨.bl b, rfl, .bl b, .ty "bool", _, _, _, rfl, .ty "bool", tu, kit_bool _, _, rfl, iteT ?_⟩
        refine ⟨.bl b, rfl, .bl b, .ty "bool", _, _, _, rfl, .ty "bool", tv, kit_bool _, _, rfl, iteT ⟨.bl b, rfl, .bl b, rfl, rfl, ?_⟩⟩
        rw [decide_eq_true rfl]
        exact q H (Same.refl H)
      | int i =>
        cases hv
        cases hu
        refine iteF ⟨.int i, rfl, rfl, _, rfl, iteF ?_⟩
        refine ⟨.int i, rfl, .int i, .ty "bool", _, _, _, rfl, .ty "bool", tu, kit_bool _, _, rfl, iteF ?_⟩
        refine ⟨.int i, rfl, .int i, .ty "str", _, _, _, rfl, .ty "str", tu, kit_str _, _, rfl, iteF ?_⟩
        refine ⟨.int i, rfl, .int i, .int, rfl, kd_int i, _, rfl, iteT ⟨.int i, rfl, .int i, rfl, rfl, ?_⟩⟩
        rw [decide_eq_true rfl]
        exact q H (Same.refl H)
      | str x =>
        cases hv
        cases hu
        refine iteF ⟨.str x, rfl, rfl, _, rfl, iteF ?_⟩
        refine ⟨.str x, rfl, .str x, .ty "bool", _, _, _, rfl, .ty "bool", tu, kit_bool _, _, rfl, iteF ?_⟩
        refine ⟨.str x, rfl, .str x, .ty "str", _, _, _, rfl, .ty "str", tu, kit_str _, _, rfl, iteT ?_⟩
        refine ⟨.str x, rfl, .str x, .ty "str", _, _, _, rfl, .ty "str", tv, kit_str _, _, rfl, iteT ⟨.str x, rfl, .str x, rfl, rfl, ?_⟩⟩
        rw [decide_eq_true rfl]
        exact q H (Same.refl H)
      | list ds => exact hs.elim
      | tuple ds => exact hs.elim
      | dict ds => exact hs.elim
    · cases hv with
      | @tup a xs _ hA hxs =>
        cases hu with
        | @tup b ys _ hB hys =>
          have lx := dpAll_len hxs
          have ly := dpAll_len hys
          have lxy : xs.length = ys.length := lx.trans ly.symm
          refine iteT ⟨.ref a, rfl, .ref a, .ty "tuple", _, _, _, rfl, .ty "tuple", tv, kit_tuple _, _, rfl, iteF ⟨.ref a, rfl, a, xs, rfl, .inr hA, .ref b, rfl, b, ys, rfl, .inr hB, rfl, _, rfl, ?_⟩⟩
          rw [decide_eq_true (show V.int ((xs.length : Nat) : Int) = V.int ((ys.length : Nat) : Int) by rw [lxy])]
          refine iteF ⟨.ref a, rfl, .ref b, rfl, a, b, xs, ys, rfl, .inr ⟨hA, hB, fun D nD => ?_⟩⟩
          have ln : xs.length = min xs.length ys.length := by omega
          refine lc_it (walk_zipT (K := K) (a := a) (b := b) ln) (fun i H' => Same H H' ∧ H' D = some (.lst ((List.replicate i true).map V.bl))) ⟨same_mut (Same.refl H) nD, upd_same⟩ (fun i H' _ hP => ⟨Same.tup hP.1 hA, Same.tup hP.1 hB⟩) (fun i x H1 H2 hi hP hY => ?_) (fun H' hP => ?_)
          · obtain ⟨Ta, x1, y1, rfl, nT, rfl, e1, e2⟩ := hY
            obtain ⟨sm, eD⟩ := hP
            have sT : Same H1 (upd H1 Ta (.tup [x1, y1])) := same_upd nT
            obtain ⟨d1, g1, m1, p1⟩ := dpAll_get hxs e1
            obtain ⟨d2, g2, m2, p2⟩ := dpAll_get hys e2
            have ed : d1 = d2 := Option.some.inj (g1.symm.trans g2)
            subst ed
            refine ⟨Ta, [x1, y1], rfl, .inl (.inl upd_same), rfl, x1, [y1], rfl, y1, [], rfl, rfl, rfl, x1, rfl, y1, rfl, x1, y1, d1, rfl, dp_same (sm.trans sT) _ _ p1, dp_same (sm.trans sT) _ _ p2, hds _ m1, fun H4 s4 => ⟨_, s4 _ _ (sT _ _ eD), ?_, same_mut ((sm.trans sT).trans s4) nD, ?_⟩⟩
            · rw [List.length_map, List.length_replicate]
              exact small1000 (by omega)
            · rw [upd_same, List.replicate_succ', List.map_append]
              rfl
          · obtain ⟨sm, eD⟩ := hP
            refine ⟨D, List.replicate xs.length true, rfl, .inl (.inl eD), ?_⟩
            rw [show (List.replicate xs.length true).all id = true from List.all_eq_true.mpr fun y hy => (List.eq_of_mem_replicate hy)]
            exact q H' sm
end
end OC

set_option Elab.async false
set_option linter.all false
set_option maxRecDepth 100000
namespace OC
open PySem PySem.Spec PyProof.Rows L2
def oddD (p : Int) : List PyData := [.none, .bool true, .bool false, .int (-1), .int p, .int 0, .int 1, .int (10 ^ 29), .str "", .str "1", .tuple [], .tuple [.int 0], .list [], .list [.int 0], .dict [], .dict [], .int (p - 1), .tuple [.tuple [.int 0]]]
abbrev Bad (d c : Addr) : Addr → Prop := fun a => a = d ∨ a = c
theorem Deck.fresh {H : Hp} {d c p : Addr} {t : Int} (D : Deck H d c t) (n : H p = none) : ¬ Bad d c p := by
  obtain ⟨hd, ⟨cells, h1, h2⟩, _, t0⟩ := D
  rintro (z | z)
  · subst z; rw [hd] at n; cases n
  · subst z; rw [h1] at n; cases n
theorem Stays.kept2 {bad : Addr → Prop} {d c : Addr} {t : Int} {H H' : Hp} (D : Deck H d c t) (k : Kept d c H H') (bd : bad d) (bc : bad c) : Stays bad H H' := by
  have s := Stays.kept D k
  refine ⟨s.t, s.d, fun a xs h n => k a _ h (fun z => n (by rw [z]; exact bd)) (fun z => n (by rw [z]; exact bc))⟩
mutual
theorem rep_weak {K : PySem.W.Frag} {b1 b2 : Addr → Prop} {H : Hp} (e : ∀ a, b2 a → b1 a) : ∀ (d : PyData) (v : V), Rep K H b1 v d → Rep K H b2 v d
  | .none, _, h => by cases h; exact .non
  | .bool b, _, h => by cases h; exact .bl b
  | .int i, _, h => by cases h; exact .int i
  | .str x, _, h => by cases h; exact .str x
  | .list ds, _, h => by
    cases h with
    | lst hs hb ha => exact .lst hs (fun z => hb (e _ z)) (repAll_weak e ds _ ha)
  | .tuple ds, _, h => by
    cases h with
    | tup hs ha => exact .tup hs (repAll_weak e ds _ ha)
  | .dict _, _, h => by
    cases h with
    | dct hs => exact .dct hs
theorem repAll_weak {K : PySem.W.Frag} {b1 b2 : Addr → Prop} {H : Hp} (e : ∀ a, b2 a → b1 a) : ∀ (ds : List PyData) (vs : List V), RepAll K H b1 vs ds → RepAll K H b2 vs ds
  | [], _, h => by cases h; exact .nil
  | d :: ds, _, h => by
    cases h with
    | cons h1 h2 => exact .cons (rep_weak e d _ h1) (repAll_weak e ds _ h2)
end
section
variable {P : Program} {w : World} {K : PySem.W.Frag} {mg : Str → Option Value} {base : Heap}
def sp_odd (K : PySem.W.Frag) : Sp := fun vs H Q _ => ∃ (d c : Addr) (t p : Int), vs = [.ref d, .int p] ∧ Deck H d c t ∧ t < 1000000 ∧ ∀ H' v e, Kept d c H H' → Deck H' d c (t + 1) → Rep K H' (fun a => H a ≠ none) v e → e ∈ oddD p → Q v H'
theorem ok__law_odd (T : Top K mg) : Ok P w K mg base 2 "_law_odd" ["_law_deck_here", "_law_p"] (sp_odd K) := by
  have O__law_draw := ok__law_draw (P := P) (w := w) (base := base) T
  refine T.d__law_odd.ok sc__law_odd (fun vs H Q E h => ?_) (fun f cdv A outer s H vs Q E hr h => ?_)
  · obtain ⟨d, c, t, p, rfl, _⟩ := h
    rfl
  · obtain ⟨d, c, t, p, rfl, D0, ht, q⟩ := h
    refine ⟨_, ((pss_cons (ps_set (i := 2) sc__law_odd.nd rfl (.inl rfl) (pe_lst (pa_cons pe_non (pa_cons pe_bl (pa_cons pe_bl (pa_cons (pe_un un_neg pe_int) (pa_cons (pv 1) (pa_cons pe_int (pa_cons pe_int (pa_cons (pe_op op_pow pe_int pe_int) (pa_cons pe_str (pa_cons pe_str (pa_cons (pe_tup pa_nil) (pa_cons (pe_tup (pa_cons pe_int pa_nil)) (pa_cons (pe_lst pa_nil) (pa_cons (pe_lst (pa_cons pe_int pa_nil)) (pa_cons pe_dnewK (pa_cons (pe_disp (pps_cons pe_str pe_int pps_nil) (by rfl) (by rfl) (fun z => by cases z) (by decide)) (pa_cons (pe_op op_sub (pv 1) pe_int) (pa_cons (pe_tup (pa_cons (pe_tup (pa_cons pe_int pa_nil)) pa_nil)) pa_nil))))))))))))))))))))
      (pss_one (ps_ret (pe_ix ix_list (pv 2) (pe_callO O__law_draw (hr.mono (by omega)) (by rfl) (pa_cons (pv 0) (pa_cons pe_int pa_nil))) (fun _ _ => rfl)))))), ?_⟩
    have sz : ∀ n : Nat, n ≤ 18 → n ≤ sizeLine := fun n h => Nat.le_trans h (by decide)
    refine ⟨1, rfl, .int p, rfl, 10, 29, rfl, rfl, ⟨by decide, by decide, by decide⟩, sz 0 (by decide), fun t0 n0 => ?_⟩
    have s0 : Same H (upd H t0 (.tup [])) := same_upd n0
    have e0 : (upd H t0 (.tup [])) t0 = some (.tup []) := upd_same
    generalize upd H t0 (.tup []) = H0 at s0 e0 ⊢
    refine ⟨sz 1 (by decide), fun t1 n1 => ?_⟩
    have s1 : Same H0 (upd H0 t1 (.tup [.int 0])) := same_upd n1
    have e1 : (upd H0 t1 (.tup [.int 0])) t1 = some (.tup [.int 0]) := upd_same
    generalize upd H0 t1 (.tup [.int 0]) = H1 at s1 e1 ⊢
    refine ⟨sz 0 (by decide), fun t2 n2 => ?_⟩
    have s2 : Same H1 (upd H1 t2 (.lst [])) := same_upd n2
    have e2 : (upd H1 t2 (.lst [])) t2 = some (.lst []) := upd_same
    generalize upd H1 t2 (.lst []) = H2 at s2 e2 ⊢
    refine ⟨sz 1 (by decide), fun t3 n3 => ?_⟩
    have s3 : Same H2 (upd H2 t3 (.lst [.int 0])) := same_upd n3
    have e3 : (upd H2 t3 (.lst [.int 0])) t3 = some (.lst [.int 0]) := upd_same
    generalize upd H2 t3 (.lst [.int 0]) = H3 at s3 e3 ⊢
    intro t4 n4
    have s4 : Same H3 (upd H3 t4 (.dK [])) := same_upd n4
    have e4 : (upd H3 t4 (.dK [])) t4 = some (.dK []) := upd_same
    generalize upd H3 t4 (.dK []) = H4 at s4 e4 ⊢
    intro t5 n5
    refine ⟨upd_same, [(Sum.inr "a", .int 1)], rfl, by decide, ?_⟩
    have s5 : Same H4 (upd (upd H4 t5 (.dK [])) t5 (.dK (mergeK [] [(Sum.inr "a", .int 1)]))) := by
      rw [upd_upd]
      exact same_upd n5
    have e5 : (upd (upd H4 t5 (.dK [])) t5 (.dK (mergeK [] [(Sum.inr "a", .int 1)]))) t5 = some (.dK (mergeK [] [(Sum.inr "a", .int 1)])) := upd_same
    generalize upd (upd H4 t5 (.dK [])) t5 (.dK (mergeK [] [(Sum.inr "a", .int 1)])) = H5 at s5 e5 ⊢
    refine ⟨.int p, rfl, p, 1, rfl, rfl, sz 1 (by decide), fun t6 n6 => ?_⟩
    have s6 : Same H5 (upd H5 t6 (.tup [.int 0])) := same_upd n6
    have e6 : (upd H5 t6 (.tup [.int 0])) t6 = some (.tup [.int 0]) := upd_same
    generalize upd H5 t6 (.tup [.int 0]) = H6 at s6 e6 ⊢
    refine ⟨sz 1 (by decide), fun t7 n7 => ?_⟩
    have s7 : Same H6 (upd H6 t7 (.tup [.ref t6])) := same_upd n7
    have e7 : (upd H6 t7 (.tup [.ref t6])) t7 = some (.tup [.ref t6]) := upd_same
    generalize upd H6 t7 (.tup [.ref t6]) = H7 at s7 e7 ⊢
    refine ⟨sz 18 (by decide), fun L nL => ?_⟩
    have sL := same_upd (o := .lst [.non, .bl true, .bl false, .int (-1), .int p, .int 0, .int 1, .int (10 ^ 29), .str "", .str "1", .ref t0, .ref t1, .ref t2, .ref t3, .ref t4, .ref t5, .int (p - 1), .ref t7]) nL
    have eL : (upd H7 L (.lst [.non, .bl true, .bl false, .int (-1), .int p, .int 0, .int 1, .int (10 ^ 29), .str "", .str "1", .ref t0, .ref t1, .ref t2, .ref t3, .ref t4, .ref t5, .int (p - 1), .ref t7])) L = _ := upd_same
    have a7 := sL
    have a6 := s7.trans a7
    have a5 := s6.trans a6
    have a4 := s5.trans a5
    have a3 := s4.trans a4
    have a2 := s3.trans a3
    have a1 := s2.trans a2
    have a0 := s1.trans a1
    have aH := s0.trans a0
    refine ⟨.ref L, rfl, .ref d, rfl, d, c, t, 18, rfl, D0.same aH, ht, by decide, by decide, fun H' r k' D' r0 r1 => ?_⟩
    have bL : ¬ Bad d c L := (D0.same (s0.trans (s1.trans (s2.trans (s3.trans (s4.trans (s5.trans (s6.trans s7)))))))).fresh nL
    have eL' := k' _ _ eL (fun z => bL (.inl z)) (fun z => bL (.inr z))
    have st : Stays (fun a => H a ≠ none) _ H' := Stays.kept2 (D0.same aH) k' (fun z => by rw [D0.hd] at z; cases z) (fun z => by obtain ⟨cells, h1, _⟩ := D0.hc; rw [h1] at z; cases z)
    have all : RepAll K H' (fun a => H a ≠ none) [.non, .bl true, .bl false, .int (-1), .int p, .int 0, .int 1, .int (10 ^ 29), .str "", .str "1", .ref t0, .ref t1, .ref t2, .ref t3, .ref t4, .ref t5, .int (p - 1), .ref t7] (oddD p) := by
      refine repAll_stays st _ _ ?_
      exact .cons .non <| .cons (.bl _) <| .cons (.bl _) <| .cons (.int _) <| .cons (.int _) <| .cons (.int _) <| .cons (.int _) <| .cons (.int _) <| .cons (.str _) <| .cons (.str _) <|
        .cons (.tup (a0 _ _ e0) .nil) <| .cons (.tup (a1 _ _ e1) (.cons (.int 0) .nil)) <| .cons (.lst (a2 _ _ e2) (fun z => z ((s0.trans s1).free n2)) .nil) <| .cons (.lst (a3 _ _ e3) (fun z => z (((s0.trans s1).trans s2).free n3)) (.cons (.int 0) .nil)) <|
        .cons (.dct (a4 _ _ e4)) <| .cons (.dct (a5 _ _ e5)) <| .cons (.int _) <| .cons (.tup (a7 _ _ e7) (.cons (.tup (a6 _ _ e6) (.cons (.int 0) .nil)) .nil)) .nil
    obtain ⟨v, hv⟩ : ∃ v, ([.non, .bl true, .bl false, .int (-1), .int p, .int 0, .int 1, .int (10 ^ 29), .str "", .str "1", .ref t0, .ref t1, .ref t2, .ref t3, .ref t4, .ref t5, .int (p - 1), .ref t7] : List V)[r.toNat]? = some v := by
      refine ⟨_, List.getElem?_eq_getElem ?_⟩
      show r.toNat < 18
      omega
    obtain ⟨e, _, m, rp⟩ := repAll_get all hv
    exact ⟨L, _, r, v, rfl, rfl, .inl (.inl eL'), at_of (j := r.toNat) (by omega) hv, q H' v e (fun b o h n1 n2 => k' b o (aH b o h) n1 n2) D' rp m⟩

/-! ### the law's primes -/
def parts (n : Int) (m : Nat) : List Int := ((List.range m).map fun (j : Nat) => (2 : Int) + j).filter fun j => decide (n % j = 0)
def prTo (i : Nat) : List Int := ((List.range i).map fun (j : Nat) => (5 : Int) + j).filter fun n => decide (parts n (n - 2).toNat = [])
theorem parts_succ (n : Int) (m : Nat) : parts n (m + 1) = parts n m ++ (if n % (2 + (m : Int)) = 0 then [2 + (m : Int)] else []) := by
  unfold parts
  rw [List.range_succ, List.map_append, List.filter_append]
  congr 1
  by_cases h : n % (2 + (m : Int)) = 0
  · simp [h]
  · simp [h]
theorem prTo_succ (i : Nat) : prTo (i + 1) = prTo i ++ (if parts (5 + i) ((5 + (i : Int)) - 2).toNat = [] then [5 + (i : Int)] else []) := by
  unfold prTo
  rw [List.range_succ, List.map_append, List.filter_append]
  congr 1
  by_cases h : parts (5 + i) ((5 + (i : Int)) - 2).toNat = []
  · simp [h]
  · simp [h]
theorem prTo_all : prTo 97 = PR := by decide +kernel
theorem parts_len (n : Int) (m : Nat) : (parts n m).length ≤ m := by
  unfold parts
  refine Nat.le_trans (List.length_filter_le _ _) ?_
  rw [List.length_map, List.length_range]
  exact Nat.le_refl _
theorem prTo_len (i : Nat) : (prTo i).length ≤ i := by
  unfold prTo
  refine Nat.le_trans (List.length_filter_le _ _) ?_
  rw [List.length_map, List.length_range]
  exact Nat.le_refl _
def sp_primes : Sp := fun vs H Q _ => vs = [] ∧ ∀ H' a, Same H H' → H' a = some (.tup (PR.map V.int)) → Q (.ref a) H'
theorem ok__law_primes (T : Top K mg) : Ok P w K mg base 1 "_law_primes" [] sp_primes := by
  refine T.d__law_primes.ok sc__law_primes (fun vs H Q E h => ?_) (fun f cdv A outer s H vs Q E hr h => ?_)
  · obtain ⟨rfl, _⟩ := h
    rfl
  · obtain ⟨rfl, q⟩ := h
    refine ⟨_, ((pss_cons (ps_set (i := 0) sc__law_primes.nd rfl (.inl rfl) (pe_lst pa_nil))
      (pss_cons (ps_for PassesOwn.never (by rfl) (pi_range2 (by rfl) T.b_range (pa_cons pe_int (pa_cons pe_int pa_nil))) (pg_name (i := 1) sc__law_primes.nd rfl (.inr rfl))
        (pss_one (ps_if (pt_cmpR (op_eqD hr.units) (pe_lc (own := [("_law_part", 2)]) (g := gName 2) (by rfl) sc__law_primes.nd (pi_range2 (by rfl) T.b_range (pa_cons pe_int (pa_cons (pv 1) pa_nil))) (blkOk_by (own := [("_law_part", 2)]) (N := N__law_primes) (sc := defScope s__law_primes) (by decide +kernel)) (fun _ _ _ _ _ => (pg_name (i := 2) sc__law_primes.nd rfl (.inl rfl))) (fun _ _ _ _ _ => (pts_one (pt_cmpR op_eq (pe_op op_mod (pv 1) (pv 2)) pe_int (nomark _)))) (fun _ _ _ _ _ => (pv 2))) (pe_lst pa_nil) (nomark _))
          (pss_one (ps_expr (pe_bm PySem.F.plainAttrs_list PySem.F.slot_list_append PySem.F.type_list_append mt_append (pv 0) (pa_cons (pv 1) pa_nil))))
          pss_nil)))
      (pss_one (ps_ret (pe_callTy call_tuple_of (by rfl) T.b_tuple (by decide +kernel) (pa_cons (pv 0) pa_nil))))))), ?_⟩
    refine ⟨Nat.zero_le _, fun o no => ?_⟩
    refine ⟨5, 102, rfl, ⟨by decide, by decide, by decide, by decide⟩, for_range (lo := 5) (n := 97) (fun i σ H' => (∃ y z, σ = [some (.ref o), y, z]) ∧ Same H H' ∧ H' o = some (.lst ((prTo i).map V.int))) ⟨⟨none, none, rfl⟩, same_upd no, upd_same⟩ (fun i σ H' hi hW => ?_) (fun σ H' hW => ?_)⟩
    · obtain ⟨⟨y, z, rfl⟩, sm, eo⟩ := hW
      refine ⟨.int (5 + i), rfl, 2, 5 + i, rfl, ⟨by decide, by decide, by omega, by omega⟩, fun D nD => ?_⟩
      have nDo : o ≠ D := ne_of_none eo nD
      refine lc_range (lo := 2) (n := (5 + (i : Int) - 2).toNat) (fun m H2 => Same H' H2 ∧ H2 D = some (.lst ((parts (5 + i) m).map V.int))) ⟨same_mut (Same.refl H') nD, upd_same⟩ (fun m H2 hm hP => ?_) (fun H2 hP => ?_)
      · obtain ⟨s2, eD⟩ := hP
        refine ⟨rfl, .int (5 + i), rfl, .int (2 + m), rfl, _, _, rfl, rfl, (show (0 : Int) < 2 + m by omega), rfl, _, rfl, ?_⟩
        by_cases e : (5 + (i : Int)) % (2 + m) = 0
        · rw [decide_eq_true (congrArg V.int e)]
          refine iteT ⟨.int (2 + m), rfl, _, eD, ?_, same_mut s2 nD, ?_⟩
          · rw [List.length_map]
            exact small1000 (Nat.le_trans (parts_len _ _) (by omega))
          · rw [upd_same, parts_succ, if_pos e, List.map_append]
            rfl
        · rw [decide_eq_false (fun z => e (V.int.inj z))]
          refine iteF ⟨s2, ?_⟩
          rw [eD, parts_succ, if_neg e, List.append_nil]
      · obtain ⟨s2, eD⟩ := hP
        refine ⟨Nat.zero_le _, fun e ne => ?_⟩
        have s3 : Same H2 (upd H2 e (.lst [])) := same_upd ne
        have e3 : (upd H2 e (.lst [])) e = some (.lst []) := upd_same
        generalize upd H2 e (.lst []) = H3 at s3 e3 ⊢
        refine ⟨.list ((parts (5 + i) (5 + (i : Int) - 2).toNat).map PyData.int), .list [], .lst (.inl (.inl (s3 _ _ eD))) (dpAll_ints _), .lst (.inl (.inl e3)) .nil, shaped_ints _, shaped_ints [], _, rfl, ?_⟩
        rw [eqv_nil]
        have smo : Same H H3 := (sm.trans s2).trans s3
        have eo3 : H3 o = _ := s3 _ _ (s2 _ _ eo)
        by_cases e : parts (5 + i) (5 + (i : Int) - 2).toNat = []
        · rw [decide_eq_true e]
          refine iteT ⟨.ref o, rfl, .inl ⟨rfl, _, .inl (.inl eo3)⟩, .int (5 + i), rfl, o, _, _, rfl, rfl, eo3, ?_, ⟨_, _, rfl⟩, ?_, ?_⟩
          · rw [List.length_map]
            exact small1000 (Nat.le_trans (prTo_len _) (by omega))
          · exact same_mut smo no
          · rw [upd_same, prTo_succ, if_pos e, List.map_append]
            rfl
        · rw [decide_eq_false e]
          refine iteF ⟨⟨_, _, rfl⟩, smo, ?_⟩
          rw [eo3, prTo_succ, if_neg e, List.append_nil]
    · obtain ⟨⟨y, z, rfl⟩, sm, eo⟩ := hW
      refine ⟨.ref o, rfl, o, _, rfl, .inl ⟨.inl (.inl eo), fun l nl => q _ l (sm.trans (same_upd nl)) ?_⟩⟩
      rw [upd_same, prTo_all]

/-! ### contrary is right -/
theorem inv_all : (PR.all fun p => (List.range (p - 1).toNat).all fun i => (List.range (p - 1).toNat).any fun j => decide (((i : Int) + 1) * ((j : Int) + 1) % p = 1)) = true := by decide +kernel
theorem inv_ex {p a : Int} (hp : p ∈ PR) (h0 : 1 ≤ a) (h1 : a < p) : ∃ b : Int, 1 ≤ b ∧ b < p ∧ a * b % p = 1 := by
  have h2 := List.all_eq_true.mp (List.all_eq_true.mp inv_all p hp) (a - 1).toNat (List.mem_range.mpr (by omega))
  obtain ⟨j, hj, e⟩ := List.any_eq_true.mp h2
  have hj := List.mem_range.mp hj
  have e := of_decide_eq_true e
  rw [show (((a - 1).toNat : Nat) : Int) + 1 = a by omega] at e
  exact ⟨j + 1, by omega, by omega, e⟩
theorem pr_bd : ∀ p ∈ PR, 5 ≤ p ∧ p ≤ 101 := by decide +kernel
def sp_cright : Sp := fun vs H Q _ => ∃ p a : Int, vs = [.int p, .int a] ∧ p ∈ PR ∧ 1 ≤ a ∧ a < p ∧ Q (.bl true) H
theorem ok__law_contrary_right (T : Top K mg) : Ok P w K mg base 2 "_law_contrary_right" ["_law_p", "_law_a"] sp_cright := by
  have O__law_whole := ok__law_whole (P := P) (w := w) (base := base) T
  have O_contrary := ok_contrary (P := P) (w := w) (base := base) T
  refine T.d__law_contrary_right.ok sc__law_contrary_right (fun vs H Q E h => ?_) (fun f cdv A outer s H vs Q E hr h => ?_)
  · obtain ⟨p, a, rfl, _⟩ := h
    rfl
  · obtain ⟨p, a, rfl, hp, h0, h1, q⟩ := h
    obtain ⟨b1, b2⟩ := pr_bd p hp
    refine ⟨_, ((pss_cons (ps_set (i := 2) sc__law_contrary_right.nd rfl (.inl rfl) (pe_callO O_contrary (hr.mono (by omega)) (by rfl) (pa_cons (pv 0) (pa_cons (pv 1) pa_nil))))
      (pss_one (ps_ret (pe_and (pe_callO O__law_whole (hr.mono (by omega)) (by rfl) (pa_cons (pv 2) pa_nil)) (pe_and (pe_chain op_lt op_lt pe_int (pv 2) (pv 0)) (pe_one (pe_cmpR op_eq (pe_op op_mod (pe_op op_mul (pv 2) (pv 1)) (pv 0)) pe_int (nomark _))))))))), ?_⟩
    refine ⟨.int p, rfl, .int a, rfl, p, a, rfl, by omega, by omega, by omega, h1, fun b hb1 hb2 hb3 => ?_, fun hn => ?_⟩
    · refine ⟨.int b, rfl, .int b, .int, rfl, kd_int b, _, rfl, iteT ?_⟩
      refine ⟨.int b, rfl, 0, b, rfl, rfl, _, rfl, ?_⟩
      rw [decide_eq_true (show (0 : Int) < b by omega)]
      refine iteT ⟨.int p, rfl, b, p, rfl, rfl, _, rfl, ?_⟩
      rw [decide_eq_true hb2]
      refine iteT ⟨.int b, rfl, .int a, rfl, b, a, rfl, rfl, .inl ⟨by omega, by omega⟩, .int p, rfl, _, p, rfl, rfl, by omega, rfl, ?_⟩
      rw [decide_eq_true (show V.int (b * a % p) = V.int 1 by rw [Int.mul_comm, hb3])]
      exact q
    · obtain ⟨b, e1, e2, e3⟩ := inv_ex hp h0 h1
      exact absurd e3 (hn b e1 e2)
end
end OC

set_option Elab.async false
set_option linter.all false
set_option maxRecDepth 100000
namespace OC
open PySem PySem.Spec PyProof.Rows L2
theorem rg_ints (a b : Int) : rgV a b = ((List.range (b - a).toNat).map fun (i : Nat) => a + (i : Int)).map V.int := by
  unfold rgV
  rw [List.map_map]
  rfl
def L0 : PyData → Prop := fun _ => False
theorem lv_ints (ns : List Int) (h : ns.length ≤ 1000) (L : PyData → Prop) : Lv (Lv L) (.tuple (ns.map PyData.int)) := by
  refine .inr ⟨_, rfl, by rw [List.length_map]; exact h, fun x hx => ?_⟩
  obtain ⟨i, _, rfl⟩ := List.mem_map.mp hx
  exact .inl True.intro
theorem new_of {H H' : Hp} {p : Addr} {o : HO} (h : upd H p o = H') (n : H p = none) : Same H H' ∧ H' p = some o := by
  subst h
  exact ⟨same_upd n, upd_same⟩
theorem upd_stays {bad : Addr → Prop} {H H' : Hp} {D : Addr} {xs ys : List V} (s : Stays bad H H') (h : H' D = some (.lst xs)) (bD : bad D) : Stays bad H (upd H' D (.lst ys)) := by
  refine ⟨fun a zs q => ?_, fun a zs q => ?_, fun a zs q n => ?_⟩
  · have := s.t a zs q
    rw [upd_ne (fun z => by subst z; rw [h] at this; cases this)]
    exact this
  · have := s.d a zs q
    rw [upd_ne (fun z => by subst z; rw [h] at this; cases this)]
    exact this
  · rw [upd_ne (fun z => n (by rw [z]; exact bD))]
    exact s.l a zs q n
section
variable {P : Program} {w : World} {K : PySem.W.Frag} {mg : Str → Option Value} {base : Heap}
theorem ok_same2 (T : Top K mg) : Ok P w K mg base 3 "_law_same" ["_law_found", "_law_due"] (sp_same K (Lv (Lv L0))) :=
  same_step T (same_step T (ok_never T.d__law_same sc__law_same L0 (fun _ h => h) rfl))
def sp_law (K : PySem.W.Frag) : Sp := fun vs H Q _ => ∃ (a : Addr) (ns : List Int), vs = [.ref a] ∧ SqL K H a (ns.map V.int) ∧ ns.length ≤ 63 ∧ ∀ H', Q (.bl true) H'
theorem ok_law (T : Top K mg) {f : Addr} {fd : FuncData} (F : Fun K "law" "law" s_law f fd) : FnOk P w K mg base CX0 4 f fd ["_law_script"] (sp_law K) := by
  have O__law_deck := ok__law_deck (P := P) (w := w) (base := base) T
  have O__law_draw := ok__law_draw (P := P) (w := w) (base := base) T
  have O__law_odd := ok__law_odd (P := P) (w := w) (base := base) T
  have O__law_whole := ok__law_whole (P := P) (w := w) (base := base) T
  have O_is_prime := ok_is_prime (P := P) (w := w) (base := base) T
  have O__law_primes := ok__law_primes (P := P) (w := w) (base := base) T
  have O__law_contrary_right := ok__law_contrary_right (P := P) (w := w) (base := base) T
  have O__law_same := ok_same2 (P := P) (w := w) (base := base) T
  obtain ⟨aP, gP, hP⟩ := T.primes
  refine F.ok sc_law (fun vs H Q E h => ?_) (fun cdv A outer s H vs Q E hr h => ?_)
  · obtain ⟨a, ns, rfl, _⟩ := h
    rfl
  · obtain ⟨a, ns, rfl, hS, hl, q⟩ := h
    refine ⟨_, ((pss_cons (ps_set (i := 1) sc_law.nd rfl (.inr rfl) (pe_callO O__law_deck (hr.mono (by omega)) (by rfl) (pa_cons (pv 0) pa_nil)))
      (pss_cons (ps_set (i := 2) sc_law.nd rfl (.inl rfl) (pe_callO0 O__law_primes (hr.mono (by omega)) (by rfl)))
      (pss_cons (ps_if (pt_not (pt_val (pe_callO O__law_same (hr.mono (by omega)) (by rfl) (pa_cons (pe_glob (v := .ref aP) (by rfl) gP rfl) (pa_cons (pv 2) pa_nil)))))
        (pss_one (ps_ret pe_bl))
        pss_nil)
      (pss_cons (ps_set (i := 3) sc_law.nd rfl (.inl rfl) (pe_op op_cat (pe_listRg (by rfl) (by rfl) T.b_list (prg_2 (by rfl) T.b_range (pe_un un_neg pe_int) pe_int)) (pe_lst (pa_cons pe_non (pa_cons pe_bl (pa_cons pe_bl (pa_cons pe_str (pa_cons pe_str (pa_cons (pe_tup (pa_cons pe_int pa_nil)) (pa_cons (pe_lst (pa_cons pe_int pa_nil)) (pa_cons pe_dnewK (pa_cons (pe_disp (pps_cons pe_str pe_int pps_nil) (by rfl) (by rfl) (fun z => by cases z) (by decide)) (pa_cons (pe_tup pa_nil) (pa_cons (pe_op op_add (pe_op op_pow pe_int pe_int) pe_int) (pa_cons (pe_un un_neg pe_int) (pa_cons (pe_un un_neg pe_int) pa_nil))))))))))))))))
      (pss_cons (ps_for PassesOwn.never (by rfl) (pi_list (pe_op op_cat (pv 3) (pe_lc (own := [("_law_k", 4)]) (g := gName 4) (by rfl) sc_law.nd (pi_range1 (by rfl) T.b_range (pa_cons pe_int pa_nil)) (blkOk_by (own := [("_law_k", 4)]) (N := N_law) (sc := defScope s_law) (by decide +kernel)) (fun _ _ _ _ _ => (pg_name (i := 4) sc_law.nd rfl (.inl rfl))) (fun _ _ _ _ _ => pts_nil) (fun _ _ _ _ _ => (pe_callO O__law_odd (hr.mono (by omega)) (by rfl) (pa_cons (pv 1) (pa_cons pe_int pa_nil))))))) (pg_name (i := 5) sc_law.nd rfl (.inl rfl))
        (pss_cons (ps_set (i := 6) sc_law.nd rfl (.inl rfl) (pe_and (pe_callO O__law_whole (hr.mono (by omega)) (by rfl) (pa_cons (pv 5) pa_nil)) (pe_one (pe_cmpR op_in_seq (pv 5) (pv 2) (by rfl)))))
        (pss_one (ps_if (pt_not (pt_val (pe_callO O__law_same (hr.mono (by omega)) (by rfl) (pa_cons (pe_callO O_is_prime (hr.mono (by omega)) (by rfl) (pa_cons (pv 5) pa_nil)) (pa_cons (pv 6) pa_nil)))))
          (pss_one (ps_ret pe_bl))
          pss_nil))))
      (pss_cons (ps_for PassesOwn.never (by rfl) (pi_range1 (by rfl) T.b_range (pa_cons pe_int pa_nil)) (pg_name (i := 7) sc_law.nd rfl (.inl rfl))
        (pss_cons (ps_set (i := 8) sc_law.nd rfl (.inr rfl) (pe_ix ix_tup (pv 2) (pe_callO O__law_draw (hr.mono (by omega)) (by rfl) (pa_cons (pv 1) (pa_cons (pe_callB call_len_seq (by rfl) T.b_len (by decide +kernel) (pa_cons (pv 2) pa_nil)) pa_nil))) (fun _ _ => rfl)))
        (pss_one (ps_if (pt_cmpR (op_neD hr.units) (pe_lc (own := [("_law_a", 9)]) (g := gName 9) (by rfl) sc_law.nd (pi_range2 (by rfl) T.b_range (pa_cons pe_int (pa_cons (pv 8) pa_nil))) (blkOk_by (own := [("_law_a", 9)]) (N := N_law) (sc := defScope s_law) (by decide +kernel)) (fun _ _ _ _ _ => (pg_name (i := 9) sc_law.nd rfl (.inl rfl))) (fun _ _ _ _ _ => (pts_one (pt_not (pt_val (pe_callO O__law_contrary_right (hr.mono (by omega)) (by rfl) (pa_cons (pv 8) (pa_cons (pv 9) pa_nil))))))) (fun _ _ _ _ _ => (pv 9))) (pe_lst pa_nil) (nomark _))
          (pss_one (ps_ret pe_bl))
          pss_nil))))
      (pss_one (ps_ret pe_bl))))))))), ?_⟩
    have sz : ∀ n : Nat, n ≤ 1000 → n ≤ sizeLine := fun n h => Nat.le_trans h (by decide)
    refine ⟨.ref a, rfl, a, ns, rfl, hS, hl, fun H1 d c s1 D1 nd nc => ?_⟩
    refine ⟨rfl, fun H2 aQ s2 e2 => ?_⟩
    refine ⟨.ref aQ, rfl, .ref aP, .ref aQ, .tuple (PR.map PyData.int), rfl, .tup (hP H2) (dpAll_ints _), .tup (.inl (.inl e2)) (dpAll_ints _), lv_ints _ (by decide) _, fun H3 s3 => ⟨true, rfl, iteF ?_⟩⟩
    have D3 : Deck H3 d c 0 := D1.same (s2.trans s3)
    have e3 : H3 aQ = some (.tup (PR.map V.int)) := s3 _ _ e2
    clear s1 s2 s3 D1 e2 nd nc
    -- things
    refine ⟨5, rfl, -5, 141, rfl, rfl, ⟨by decide, by decide, by decide, by decide, by decide⟩, fun l nl => ?_⟩
    have s4 : Same H3 (upd H3 l (.lst (rgV (-5) 141))) := same_upd nl
    have e4 : (upd H3 l (.lst (rgV (-5) 141))) l = some (.lst (rgV (-5) 141)) := upd_same
    generalize upd H3 l (.lst (rgV (-5) 141)) = H4 at s4 e4 ⊢
    refine ⟨sz 1 (by decide), fun t0 n0 => ?_⟩
    have s5 : Same H4 (upd H4 t0 (.tup [.int 5])) := same_upd n0
    have e5 : (upd H4 t0 (.tup [.int 5])) t0 = some (.tup [.int 5]) := upd_same
    generalize upd H4 t0 (.tup [.int 5]) = H5 at s5 e5 ⊢
    refine ⟨sz 1 (by decide), fun t1 n1 => ?_⟩
    have s6 : Same H5 (upd H5 t1 (.lst [.int 5])) := same_upd n1
    have e6 : (upd H5 t1 (.lst [.int 5])) t1 = some (.lst [.int 5]) := upd_same
    generalize upd H5 t1 (.lst [.int 5]) = H6 at s6 e6 ⊢
    intro t2 n2
    have s7 : Same H6 (upd H6 t2 (.dK [])) := same_upd n2
    have e7 : (upd H6 t2 (.dK [])) t2 = some (.dK []) := upd_same
    generalize upd H6 t2 (.dK []) = H7 at s7 e7 ⊢
    intro t3 n3
    refine ⟨upd_same, [(Sum.inr "a", .int 5)], rfl, by decide, ?_⟩
    have s8 : Same H7 (upd (upd H7 t3 (.dK [])) t3 (.dK (mergeK [] [(Sum.inr "a", .int 5)]))) := by
      rw [upd_upd]
      exact same_upd n3
    have e8 : (upd (upd H7 t3 (.dK [])) t3 (.dK (mergeK [] [(Sum.inr "a", .int 5)]))) t3 = some (.dK (mergeK [] [(Sum.inr "a", .int 5)])) := upd_same
    generalize upd (upd H7 t3 (.dK [])) t3 (.dK (mergeK [] [(Sum.inr "a", .int 5)])) = H8 at s8 e8 ⊢
    refine ⟨sz 0 (by decide), fun t4 n4 => ?_⟩
    have s9 : Same H8 (upd H8 t4 (.tup [])) := same_upd n4
    have e9 : (upd H8 t4 (.tup [])) t4 = some (.tup []) := upd_same
    generalize upd H8 t4 (.tup []) = H9 at s9 e9 ⊢
    refine ⟨10, 29, rfl, rfl, ⟨by decide, by decide, by decide⟩, _, 7, rfl, rfl, 7, rfl, 101, rfl, sz 13 (by decide), fun L nL => ?_⟩
    generalize h10 : upd H9 L _ = H10
    obtain ⟨s10, e10⟩ := new_of h10 nL
    have e10 : H10 L = some (.lst [.non, .bl true, .bl false, .str "5", .str "", .ref t0, .ref t1, .ref t2, .ref t3, .ref t4, .int (10 ^ 29 + 7), .int (-7), .int (-101)]) := e10
    refine ⟨l, L, _, _, rfl, rfl, s10 _ _ (s9 _ _ (s8 _ _ (s7 _ _ (s6 _ _ (s5 _ _ e4))))), e10, sz 159 (by decide), fun M nM => ?_⟩
    generalize h11 : upd H10 M _ = H11
    obtain ⟨s11, e11⟩ := new_of h11 nM
    have w9 := s10.trans s11
    have w8 := s9.trans w9
    have w7 := s8.trans w8
    have w6 := s7.trans w7
    have w5 := s6.trans w6
    have w4 := s5.trans w5
    have w3 := s4.trans w4
    have D11 : Deck H11 d c 0 := D3.same w3
    have all : ∃ es, RepAll K H11 (fun a => H5 a ≠ none) (rgV (-5) 141 ++ [.non, .bl true, .bl false, .str "5", .str "", .ref t0, .ref t1, .ref t2, .ref t3, .ref t4, .int (10 ^ 29 + 7), .int (-7), .int (-101)]) es := by
      have r1 : RepAll K H11 (fun a => H5 a ≠ none) (rgV (-5) 141) (((List.range ((141 : Int) - -5).toNat).map fun (i : Nat) => (-5 : Int) + i).map PyData.int) := by
        rw [rg_ints]
        exact repAll_ints _
      refine ⟨_, repAll_append r1 <| .cons .non <| .cons (.bl _) <| .cons (.bl _) <| .cons (.str _) <| .cons (.str _) <| .cons (.tup (w5 _ _ e5) (.cons (.int 5) .nil)) <| .cons (.lst (w6 _ _ e6) (fun z => z n1) (.cons (.int 5) .nil)) <|
        .cons (.dct (w7 _ _ e7)) <| .cons (.dct (w8 _ _ e8)) <| .cons (.tup (w9 _ _ e9) .nil) <| .cons (.int _) <| .cons (.int _) <| .cons (.int _) .nil⟩
    obtain ⟨es, all⟩ := all
    have lenM : (rgV (-5) 141 ++ [V.non, .bl true, .bl false, .str "5", .str "", .ref t0, .ref t1, .ref t2, .ref t3, .ref t4, .int (10 ^ 29 + 7), .int (-7), .int (-101)]).length = 159 := by
      rw [List.length_append, rgV_length]
      rfl
    generalize (rgV (-5) 141 ++ [V.non, .bl true, .bl false, .str "5", .str "", .ref t0, .ref t1, .ref t2, .ref t3, .ref t4, .int (10 ^ 29 + 7), .int (-7), .int (-101)]) = xs at e11 all lenM
    have e11Q : H11 aQ = some (.tup (PR.map V.int)) := w3 _ _ e3
    have hd5 : H5 d ≠ none := fun z => by rw [s5 _ _ (s4 _ _ D3.hd)] at z; cases z
    have hc5 : H5 c ≠ none := fun z => by obtain ⟨cells, h1, _⟩ := D3.hc; rw [s5 _ _ (s4 _ _ h1)] at z; cases z
    -- the odd ones
    refine ⟨.ref M, rfl, 3, rfl, by decide, by decide, fun B nB => ?_⟩
    have bM : M ≠ d ∧ M ≠ c := ⟨fun z => by (subst z; rw [s10 _ _ (s9 _ _ (s8 _ _ (s7 _ _ (s6 _ _ (s5 _ _ (s4 _ _ D3.hd))))))] at nM; cases nM), fun z => by (obtain ⟨cells, h1, _⟩ := D3.hc; subst z; rw [s10 _ _ (s9 _ _ (s8 _ _ (s7 _ _ (s6 _ _ (s5 _ _ (s4 _ _ h1))))))] at nM; cases nM)⟩
    have bB : B ≠ d ∧ B ≠ c := ⟨fun z => by (subst z; rw [D11.hd] at nB; cases nB), fun z => by (obtain ⟨cells, h1, _⟩ := D11.hc; subst z; rw [h1] at nB; cases nB)⟩
    have bBM : M ≠ B := ne_of_none e11 nB
    refine lc_range (lo := 0) (n := 3) (fun i H' => Kept d c H11 H' ∧ Deck H' d c (i : Int) ∧ ∃ vs es, H' B = some (.lst vs) ∧ vs.length = i ∧ RepAll K H' (fun a => a = d ∨ a = c ∨ a = B) vs es) ⟨Kept.of (same_upd nB), D11.same (same_upd nB), [], [], upd_same, rfl, .nil⟩ (fun i H' hi hW => ?_) (fun H' hW => ?_)
    · obtain ⟨k', D', vs, es', eB, ln, rp⟩ := hW
      refine ⟨rfl, .ref d, rfl, d, c, i, 101, rfl, D', by omega, fun H'' v e k'' D'' rv _ => ⟨vs, k'' _ _ eB bB.1 bB.2, small1000 (by omega), ?_, ?_, vs ++ [v], es' ++ [e], upd_same, by rw [List.length_append, ln]; rfl, ?_⟩⟩
      · intro b o h n1 n2
        rw [upd_ne (ne_of_none h nB)]
        exact k'' b o (k' b o h n1 n2) n1 n2
      · obtain ⟨hd, ⟨cells, h1, h2⟩, n, t0⟩ := D''
        exact ⟨by rw [upd_ne (Ne.symm bB.1)]; exact hd, ⟨cells, by rw [upd_ne (Ne.symm bB.2)]; exact h1, h2⟩, n, t0⟩
      · have st : Stays (fun a => a = d ∨ a = c ∨ a = B) H' (upd H'' B (.lst (vs ++ [v]))) := upd_stays (Stays.kept2 D' k'' (.inl rfl) (.inr (.inl rfl))) (k'' _ _ eB bB.1 bB.2) (.inr (.inr rfl))
        have st2 : Stays (fun a => a = d ∨ a = c ∨ a = B) H'' (upd H'' B (.lst (vs ++ [v]))) := upd_stays (Stays.of (Same.refl H'')) (k'' _ _ eB bB.1 bB.2) (.inr (.inr rfl))
        refine repAll_append (repAll_stays st _ _ rp) (.cons (rep_stays st2 _ _ (rep_weak (fun x hx => ?_) _ _ rv)) .nil)
        rcases hx with z | z | z
        · subst z; rw [D'.hd]; exact fun h => nomatch h
        · obtain ⟨cells, h1, _⟩ := D'.hc
          subst z; rw [h1]; exact fun h => nomatch h
        · subst z; rw [eB]; exact fun h => nomatch h
    · obtain ⟨k', D', vs, es', eB, ln, rp⟩ := hW
      have eM' : H' M = some (.lst xs) := k' _ _ e11 bM.1 bM.2
      have eQ' : H' aQ = some (.tup (PR.map V.int)) := (Stays.kept D11 k').t _ _ e11Q
      have rx : RepAll K H' (fun a => H5 a ≠ none) xs es := repAll_stays (Stays.kept2 D11 k' hd5 hc5) _ _ all
      have rx' : RepAll K H' (fun _ => False) (xs ++ vs) (es ++ es') := repAll_append (repAll_weak (fun _ h => h.elim) _ _ rx) (repAll_weak (fun _ h => h.elim) _ _ rp)
      refine ⟨M, B, xs, vs, rfl, rfl, eM', eB, sz _ (by omega), fun N nN => ?_⟩
      have sN := same_upd (o := .lst (xs ++ vs)) nN
      have eN : (upd H' N (.lst (xs ++ vs))) N = some (.lst (xs ++ vs)) := upd_same
      have rN := repAll_stays (Stays.of sN) _ _ rx'
      have eQN := sN _ _ eQ'
      have DN := D'.same sN
      generalize upd H' N (.lst (xs ++ vs)) = HN at sN eN rN eQN DN ⊢
      refine ⟨N, rfl, ⟨_, .inl (.inl eN)⟩, for_list (xs := xs ++ vs) (fun i σ H'' => Same HN H'' ∧ ∃ y5 y6, σ = [some (.ref a), some (.ref d), some (.ref aQ), some (.ref M), none, y5, y6, none, none, none]) ⟨Same.refl HN, none, none, rfl⟩ (fun i σ H'' _ hW => .inl (.inl (hW.1 _ _ eN))) (fun i x σ H'' hx hW => ?_) (fun σ H'' hW => ?_)⟩
      · obtain ⟨sm, y5, y6, rfl⟩ := hW
        obtain ⟨e, _, _, re⟩ := repAll_get rN hx
        have kd := (rep_stays (Stays.of sm) _ _ re).kd
        refine ⟨x, rfl, x, kdOf e, rfl, kd, _, rfl, ?_⟩
        by_cases ek : kdOf e = .int
        · obtain ⟨j, rfl⟩ := kd_is_int kd ek
          rw [decide_eq_true ek]
          refine iteT ⟨.int j, rfl, .ref aQ, rfl, aQ, _, rfl, .inr (.inl (.inl (sm _ _ eQN))), rfl, rfl, ?_⟩
          refine ⟨.int j, rfl, .int j, _, rfl, kd, .bl _, rfl, .bl _, .bl _, .bool (decide (kdOf e = .int) && isPr (.int j)), rfl, .bl _, ?_, .inl True.intro, fun H4 s4 => ⟨true, rfl, iteF ⟨sm.trans s4, _, _, rfl⟩⟩⟩
          rw [decide_eq_true ek, in_ints]
          exact .bl _
        · rw [decide_eq_false ek]
          refine iteF ⟨x, rfl, x, _, rfl, kd, .bl _, rfl, .bl _, .bl _, .bool (decide (kdOf e = .int) && isPr x), rfl, .bl _, ?_, .inl True.intro, fun H4 s4 => ⟨true, rfl, iteF ⟨sm.trans s4, _, _, rfl⟩⟩⟩
          rw [decide_eq_false ek]
          exact .bl _
      · obtain ⟨sm, y5, y6, rfl⟩ := hW
        have eQ2 := sm _ _ eQN
        have D2 : Deck H'' d c (3 + ((0 : Nat) : Int)) := by
          rw [show (3 : Int) + ((0 : Nat) : Int) = ((3 : Nat) : Int) from rfl]
          exact DN.same sm
        -- the turns
        refine ⟨3, rfl, by decide, by decide, for_range (lo := 0) (n := 3) (fun i σ H3 => Deck H3 d c (3 + i) ∧ H3 aQ = some (.tup (PR.map V.int)) ∧ ∃ y7 y8, σ = [some (.ref a), some (.ref d), some (.ref aQ), some (.ref M), none, y5, y6, y7, y8, none]) ⟨D2, eQ2, none, none, rfl⟩ (fun i σ H3 hi hW => ?_) (fun σ H3 hW => q H3)⟩
        obtain ⟨D3', eQ3, y7, y8, rfl⟩ := hW
        refine ⟨.ref aQ, rfl, .ref d, rfl, .ref aQ, rfl, aQ, _, rfl, .inr (.inl (.inl eQ3)), d, c, _, _, rfl, D3', by omega, by decide, by decide, fun H4 r k4 D4 r0 r1 => ?_⟩
        have eQ4 : H4 aQ = some (.tup (PR.map V.int)) := (Stays.kept D3' k4).t _ _ eQ3
        have r1 : r < (PR.length : Int) := by
          rw [List.length_map] at r1
          exact r1
        obtain ⟨p, hp, _, hp3⟩ := at_int (xs := PR) r0 r1
        obtain ⟨b1, b2⟩ := pr_bd p hp
        refine ⟨aQ, _, r, .int p, rfl, rfl, .inl (.inl eQ4), hp3, ?_⟩
        refine ⟨.int p, rfl, 1, p, rfl, ⟨by decide, by decide, by omega, by omega⟩, fun B2 nB2 => ?_⟩
        refine lc_range (lo := 1) (n := (p - 1).toNat) (fun j H5 => Same H4 H5 ∧ H5 B2 = some (.lst [])) ⟨same_upd nB2, upd_same⟩ (fun j H5 hj hW => ?_) (fun H5 hW => ?_)
        · obtain ⟨s5', e5'⟩ := hW
          exact ⟨rfl, .int p, rfl, .int (1 + j), rfl, p, 1 + j, rfl, hp, by omega, by omega, true, rfl, iteF ⟨s5', e5'⟩⟩
        · obtain ⟨s5', e5'⟩ := hW
          refine ⟨Nat.zero_le _, fun e ne => ?_⟩
          have s6' : Same H5 (upd H5 e (.lst [])) := same_upd ne
          have e6' : (upd H5 e (.lst [])) e = some (.lst []) := upd_same
          refine ⟨.list [], .list [], .lst (.inl (.inl (s6' _ _ e5'))) .nil, .lst (.inl (.inl e6')) .nil, shaped_ints [], shaped_ints [], _, rfl, iteF ?_⟩
          have s7' := s5'.trans s6'
          have D7 := D4.same s7'
          rw [show (3 + (i : Int)) + 1 = 3 + ((i + 1 : Nat) : Int) by omega] at D7
          exact ⟨D7, s7' _ _ eQ4, _, _, rfl⟩
end
/-! ### the end -/
theorem all_mk {l : PySem.W.OpenLaw} {w : World} {K : PySem.W.Frag} {h : Heap} {mg : Str → Option Value} {fa : Addr} (X : K.In h) (G : h.Ns mainGlobals mg) (hfa : mg "law" = some (.ref fa))
    {f0 : Addr} {od0 an0 : Option Addr} {sl0 : Array (Option Value)} {oc0 kV0 dc0 pm0 cd0 ct0 : Value}
    (a0 : PySem.W.nsIn K mainGlobals "is_number" = some (some (.ref f0))) (l0 : K.lookup f0 = some ⟨oc0, od0, .func (PySem.W.fnOf "is_number" "is_number" (defArgs s_is_number) (defBody s_is_number) (defScope s_is_number) .none kV0 dc0 pm0 an0 cd0 ct0), sl0⟩) (c0 : PySem.W.codeIn K cd0 "is_number" = true) (k0 : PySem.W.keepIn K (.ref f0) = true)
    {f1 : Addr} {od1 an1 : Option Addr} {sl1 : Array (Option Value)} {oc1 kV1 dc1 pm1 cd1 ct1 : Value}
    (a1 : PySem.W.nsIn K mainGlobals "is_prime" = some (some (.ref f1))) (l1 : K.lookup f1 = some ⟨oc1, od1, .func (PySem.W.fnOf "is_prime" "is_prime" (defArgs s_is_prime) (defBody s_is_prime) (defScope s_is_prime) .none kV1 dc1 pm1 an1 cd1 ct1), sl1⟩) (c1 : PySem.W.codeIn K cd1 "is_prime" = true) (k1 : PySem.W.keepIn K (.ref f1) = true)
    {f2 : Addr} {od2 an2 : Option Addr} {sl2 : Array (Option Value)} {oc2 kV2 dc2 pm2 cd2 ct2 : Value}
    (a2 : PySem.W.nsIn K mainGlobals "contrary" = some (some (.ref f2))) (l2 : K.lookup f2 = some ⟨oc2, od2, .func (PySem.W.fnOf "contrary" "contrary" (defArgs s_contrary) (defBody s_contrary) (defScope s_contrary) .none kV2 dc2 pm2 an2 cd2 ct2), sl2⟩) (c2 : PySem.W.codeIn K cd2 "contrary" = true) (k2 : PySem.W.keepIn K (.ref f2) = true)
    {f3 : Addr} {od3 an3 : Option Addr} {sl3 : Array (Option Value)} {oc3 kV3 dc3 pm3 cd3 ct3 : Value}
    (a3 : PySem.W.nsIn K mainGlobals "_law_deck" = some (some (.ref f3))) (l3 : K.lookup f3 = some ⟨oc3, od3, .func (PySem.W.fnOf "_law_deck" "_law_deck" (defArgs s__law_deck) (defBody s__law_deck) (defScope s__law_deck) .none kV3 dc3 pm3 an3 cd3 ct3), sl3⟩) (c3 : PySem.W.codeIn K cd3 "_law_deck" = true) (k3 : PySem.W.keepIn K (.ref f3) = true)
    {f4 : Addr} {od4 an4 : Option Addr} {sl4 : Array (Option Value)} {oc4 kV4 dc4 pm4 cd4 ct4 : Value}
    (a4 : PySem.W.nsIn K mainGlobals "_law_draw" = some (some (.ref f4))) (l4 : K.lookup f4 = some ⟨oc4, od4, .func (PySem.W.fnOf "_law_draw" "_law_draw" (defArgs s__law_draw) (defBody s__law_draw) (defScope s__law_draw) .none kV4 dc4 pm4 an4 cd4 ct4), sl4⟩) (c4 : PySem.W.codeIn K cd4 "_law_draw" = true) (k4 : PySem.W.keepIn K (.ref f4) = true)
    {f5 : Addr} {od5 an5 : Option Addr} {sl5 : Array (Option Value)} {oc5 kV5 dc5 pm5 cd5 ct5 : Value}
    (a5 : PySem.W.nsIn K mainGlobals "_law_whole" = some (some (.ref f5))) (l5 : K.lookup f5 = some ⟨oc5, od5, .func (PySem.W.fnOf "_law_whole" "_law_whole" (defArgs s__law_whole) (defBody s__law_whole) (defScope s__law_whole) .none kV5 dc5 pm5 an5 cd5 ct5), sl5⟩) (c5 : PySem.W.codeIn K cd5 "_law_whole" = true) (k5 : PySem.W.keepIn K (.ref f5) = true)
    {f6 : Addr} {od6 an6 : Option Addr} {sl6 : Array (Option Value)} {oc6 kV6 dc6 pm6 cd6 ct6 : Value}
    (a6 : PySem.W.nsIn K mainGlobals "_law_same" = some (some (.ref f6))) (l6 : K.lookup f6 = some ⟨oc6, od6, .func (PySem.W.fnOf "_law_same" "_law_same" (defArgs s__law_same) (defBody s__law_same) (defScope s__law_same) .none kV6 dc6 pm6 an6 cd6 ct6), sl6⟩) (c6 : PySem.W.codeIn K cd6 "_law_same" = true) (k6 : PySem.W.keepIn K (.ref f6) = true)
    {f7 : Addr} {od7 an7 : Option Addr} {sl7 : Array (Option Value)} {oc7 kV7 dc7 pm7 cd7 ct7 : Value}
    (a7 : PySem.W.nsIn K mainGlobals "_law_odd" = some (some (.ref f7))) (l7 : K.lookup f7 = some ⟨oc7, od7, .func (PySem.W.fnOf "_law_odd" "_law_odd" (defArgs s__law_odd) (defBody s__law_odd) (defScope s__law_odd) .none kV7 dc7 pm7 an7 cd7 ct7), sl7⟩) (c7 : PySem.W.codeIn K cd7 "_law_odd" = true) (k7 : PySem.W.keepIn K (.ref f7) = true)
    {f8 : Addr} {od8 an8 : Option Addr} {sl8 : Array (Option Value)} {oc8 kV8 dc8 pm8 cd8 ct8 : Value}
    (a8 : PySem.W.nsIn K mainGlobals "_law_primes" = some (some (.ref f8))) (l8 : K.lookup f8 = some ⟨oc8, od8, .func (PySem.W.fnOf "_law_primes" "_law_primes" (defArgs s__law_primes) (defBody s__law_primes) (defScope s__law_primes) .none kV8 dc8 pm8 an8 cd8 ct8), sl8⟩) (c8 : PySem.W.codeIn K cd8 "_law_primes" = true) (k8 : PySem.W.keepIn K (.ref f8) = true)
    {f9 : Addr} {od9 an9 : Option Addr} {sl9 : Array (Option Value)} {oc9 kV9 dc9 pm9 cd9 ct9 : Value}
    (a9 : PySem.W.nsIn K mainGlobals "_law_contrary_right" = some (some (.ref f9))) (l9 : K.lookup f9 = some ⟨oc9, od9, .func (PySem.W.fnOf "_law_contrary_right" "_law_contrary_right" (defArgs s__law_contrary_right) (defBody s__law_contrary_right) (defScope s__law_contrary_right) .none kV9 dc9 pm9 an9 cd9 ct9), sl9⟩) (c9 : PySem.W.codeIn K cd9 "_law_contrary_right" = true) (k9 : PySem.W.keepIn K (.ref f9) = true)
    {f10 : Addr} {od10 an10 : Option Addr} {sl10 : Array (Option Value)} {oc10 kV10 dc10 pm10 cd10 ct10 : Value}
    (a10 : PySem.W.nsIn K mainGlobals "law" = some (some (.ref f10))) (l10 : K.lookup f10 = some ⟨oc10, od10, .func (PySem.W.fnOf "law" "law" (defArgs s_law) (defBody s_law) (defScope s_law) .none kV10 dc10 pm10 an10 cd10 ct10), sl10⟩) (c10 : PySem.W.codeIn K cd10 "law" = true) (k10 : PySem.W.keepIn K (.ref f10) = true)
    (z_abs : PySem.W.nsIn K mainGlobals "abs" = some none)
    (z_all : PySem.W.nsIn K mainGlobals "all" = some none)
    (z_bool : PySem.W.nsIn K mainGlobals "bool" = some none)
    (z_int : PySem.W.nsIn K mainGlobals "int" = some none)
    (z_isinstance : PySem.W.nsIn K mainGlobals "isinstance" = some none)
    (z_len : PySem.W.nsIn K mainGlobals "len" = some none)
    (z_list : PySem.W.nsIn K mainGlobals "list" = some none)
    (z_range : PySem.W.nsIn K mainGlobals "range" = some none)
    (z_str : PySem.W.nsIn K mainGlobals "str" = some none)
    (z_tuple : PySem.W.nsIn K mainGlobals "tuple" = some none)
    (z_zip : PySem.W.nsIn K mainGlobals "zip" = some none)
    {aP : Addr} {odP : Option Addr} {itsP : Array Value} {nP : Nat} {slP : Array (Option Value)}
    (aPR : PySem.W.nsIn K mainGlobals "PRIMES" = some (some (.ref aP))) (lPR : K.lookup aP = some ⟨.type "tuple", odP, .seq itsP nP, slP⟩) (vPR : Vals (PR.map V.int) itsP.toList) :
    ∃ fd : FuncData, (∀ (s : Shared) (v : Value), BindsTo s fd ⟨[v], []⟩ [("_law_script", v)]) ∧ ∀ base : Heap, K.In base → base.Ns mainGlobals mg → FnOk l.prog w K mg base CX0 4 fa fd ["_law_script"] (sp_law K) := by
  have e := hfa.symm.trans (PySem.W.mg_of X G a10)
  cases e
  have hz : itsP.size ≤ sizeLine := by
    have e := Vals.length vPR
    have e2 : (PR.map V.int).length = itsP.size := by rw [e, Array.length_toList]
    rw [← e2]
    decide
  have T : Top K mg := {
    b_abs := PySem.W.mg_none_of X G z_abs,
    b_all := PySem.W.mg_none_of X G z_all,
    b_bool := PySem.W.mg_none_of X G z_bool,
    b_int := PySem.W.mg_none_of X G z_int,
    b_isinstance := PySem.W.mg_none_of X G z_isinstance,
    b_len := PySem.W.mg_none_of X G z_len,
    b_list := PySem.W.mg_none_of X G z_list,
    b_range := PySem.W.mg_none_of X G z_range,
    b_str := PySem.W.mg_none_of X G z_str,
    b_tuple := PySem.W.mg_none_of X G z_tuple,
    b_zip := PySem.W.mg_none_of X G z_zip,
    d_is_number := df_of X G a0 l0 c0 k0 (fun _ _ _ _ _ _ us hl => match us, hl with | [_], _ => rfl),
    d_is_prime := df_of X G a1 l1 c1 k1 (fun _ _ _ _ _ _ us hl => match us, hl with | [_], _ => rfl),
    d_contrary := df_of X G a2 l2 c2 k2 (fun _ _ _ _ _ _ us hl => match us, hl with | [_, _], _ => rfl),
    d__law_deck := df_of X G a3 l3 c3 k3 (fun _ _ _ _ _ _ us hl => match us, hl with | [_], _ => rfl),
    d__law_draw := df_of X G a4 l4 c4 k4 (fun _ _ _ _ _ _ us hl => match us, hl with | [_, _], _ => rfl),
    d__law_whole := df_of X G a5 l5 c5 k5 (fun _ _ _ _ _ _ us hl => match us, hl with | [_], _ => rfl),
    d__law_same := df_of X G a6 l6 c6 k6 (fun _ _ _ _ _ _ us hl => match us, hl with | [_, _], _ => rfl),
    d__law_odd := df_of X G a7 l7 c7 k7 (fun _ _ _ _ _ _ us hl => match us, hl with | [_, _], _ => rfl),
    d__law_primes := df_of X G a8 l8 c8 k8 (fun _ _ _ _ _ _ us hl => match us, hl with | [], _ => rfl),
    d__law_contrary_right := df_of X G a9 l9 c9 k9 (fun _ _ _ _ _ _ us hl => match us, hl with | [_, _], _ => rfl),
    primes := ⟨aP, PySem.W.mg_of X G aPR, fun H => .inr ⟨_, itsP, nP, lPR, rfl, rfl, hz, vPR⟩⟩ }
  have F := fun_mk (st := s_law) l10 c10 k10
  exact ⟨PySem.W.fnOf "law" "law" (defArgs s_law) (defBody s_law) (defScope s_law) .none kV10 dc10 pm10 an10 cd10 ct10, fun s v => .of_eq rfl, fun base _ _ => ok_law T F⟩
end OC

open PySem PySem.W PyProof.Rows
set_option Elab.async false
set_option maxRecDepth 100000 in
set_option maxHeartbeats 0 in
theorem PySem.Challenge.cw_opencalls_k01_rests_holds : PySem.Challenge.rw_opencalls_k01_rests.Holds := by
  w_on; o_law; k_head; (case hw => w_witness2)
  k_fill
  refine L2.walk_of (l := PySem.Challenge.rw_opencalls_k01_rests) (n := 63) (k := 4) (x := "_law_script") (CX := fun _ => L2.CX0) (sp := fun w => OC.sp_law _) rfl (by decide) rfl ⟨rfl, by decide, by decide⟩ (fun w h Y => PySem.W.kIn_of Y) ?F (fun _ _ a ns hl _ hS => ⟨a, ns, rfl, hS, hl, fun _ => rfl⟩) (fun _ _ _ _ _ h => h)
  case F =>
    intro w mg fa h KX G hmg
    refine' OC.all_mk KX G hmg ?a0 ?l0 ?c0 ?k0 ?a1 ?l1 ?c1 ?k1 ?a2 ?l2 ?c2 ?k2 ?a3 ?l3 ?c3 ?k3 ?a4 ?l4 ?c4 ?k4 ?a5 ?l5 ?c5 ?k5 ?a6 ?l6 ?c6 ?k6 ?a7 ?l7 ?c7 ?k7 ?a8 ?l8 ?c8 ?k8 ?a9 ?l9 ?c9 ?k9 ?a10 ?l10 ?c10 ?k10 ?z_abs ?z_all ?z_bool ?z_int ?z_isinstance ?z_len ?z_list ?z_range ?z_str ?z_tuple ?z_zip ?aPR ?lPR ?vPR
    (case a0 => k_is); (case l0 => k_is); (case c0 => k_is); (case k0 => k_is); (case a1 => k_is); (case l1 => k_is); (case c1 => k_is); (case k1 => k_is); (case a2 => k_is); (case l2 => k_is); (case c2 => k_is); (case k2 => k_is); (case a3 => k_is); (case l3 => k_is); (case c3 => k_is); (case k3 => k_is); (case a4 => k_is); (case l4 => k_is); (case c4 => k_is); (case k4 => k_is); (case a5 => k_is); (case l5 => k_is); (case c5 => k_is); (case k5 => k_is); (case a6 => k_is); (case l6 => k_is); (case c6 => k_is); (case k6 => k_is); (case a7 => k_is); (case l7 => k_is); (case c7 => k_is); (case k7 => k_is); (case a8 => k_is); (case l8 => k_is); (case c8 => k_is); (case k8 => k_is); (case a9 => k_is); (case l9 => k_is); (case c9 => k_is); (case k9 => k_is); (case a10 => k_is); (case l10 => k_is); (case c10 => k_is); (case k10 => k_is); (case z_abs => k_is); (case z_all => k_is); (case z_bool => k_is); (case z_int => k_is); (case z_isinstance => k_is); (case z_len => k_is); (case z_list => k_is); (case z_range => k_is); (case z_str => k_is); (case z_tuple => k_is); (case z_zip => k_is)
    (case aPR => k_is); (case lPR => k_is)
    case vPR => repeat (first | exact .nil | refine .cons ⟨_, rfl⟩ ?_)
