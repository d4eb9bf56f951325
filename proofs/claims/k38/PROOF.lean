import PyProof.Rows.All
import Wide.All
import OpenK.AllK
import Wide.FinOn
import HandS.ForMost
import HandS.Evl
import HandS.Walk
import HandS.Wide
import HandS.WideBits
import HandS.Style
import HandS.TupAny
import HandS.TupMul
import HandS.Conv
import HandS.Zip
import HandS.IsInst
import HandS.Flow
import KE.DataMinMax
import KE.DataEq
import KE.DataIsa
import KE.DataAny
import KE.SortData
import PyProof.ReprRoads
import KE.KRevSl
import HandS.Ends
import PyProof.ReprBulk
import KE.GoesEnum
import KE.GoesMore
import HandS.SortKw
import PyProof.Rows.RowBridgeK
import HandS.Sort
import HandS.DictSub
import HandS.Star
import HandS.SetFor
import HandS.Strs
import HandS.SetBool
import KE.LtData
import KE.KIndexOf
import KE.KDictPairs
import PyProof.EnumStmt
import PyProof.TupleOfSeq
import PyProof.ForAny
import PySem.Challenge.RW_stubcords_k38_cuts_by_hand_and_by_names
set_option Elab.async false
set_option linter.all false
set_option maxRecDepth 100000
namespace Dn
open PySem PySem.Spec PyProof.Rows L2
open Evl (Ex Ex.refl Ex.trans Ex.new fresh_back ex_l ex_t ex_rd)
/-! ### tuples that have no dict of their own -/
/-- the tuple at a, which has no dict -/
def SqN (K : PySem.W.Frag) (H : Hp) (a : Addr) (xs : List V) : Prop := SqT K H a xs ∧ ((∃ ob u, H a = some (.frz ob u) ∧ ob.dict = none) ∨ ∃ ob, K.lookup a = some ob ∧ ob.dict = none)
theorem SqN.t {K : PySem.W.Frag} {H : Hp} {a : Addr} {xs : List V} (h : SqN K H a xs) : SqT K H a xs := h.1
theorem SqN.of {K : PySem.W.Frag} {H : Hp} {a : Addr} {xs : List V} {ob : Obj} (hd : ob.dict = none) (h : H a = some (.frz ob (.tup xs))) : SqN K H a xs := ⟨.inl (.inr ⟨_, h⟩), .inl ⟨_, _, h, hd⟩⟩
theorem ex_n {K : PySem.W.Frag} {H H1 : Hp} {a : Addr} {xs : List V} (e : Ex H H1) (h : SqN K H a xs) : SqN K H1 a xs := by
  refine ⟨ex_t e h.1, ?_⟩
  rcases h.2 with ⟨ob, u, h1, h2⟩ | h2
  · exact .inl ⟨ob, u, e _ _ h1, h2⟩
  · exact .inr h2
/-- a new tuple that has none -/
abbrev NewT (Q : VK) (H : Hp) (xs : List V) : Prop := ∀ p ob, ob.dict = none → H p = none → Q (.ref p) (upd H p (.frz ob (.tup xs)))
section
variable {X : Cx} {pins : List (Addr × Obj)} {σ : L2.St} {H : Hp} {s : Shared} {xs : List V} {its : List Value}
theorem Inv_newT (I : Inv X pins σ H s) (r : Vals xs its) (z : xs.length ≤ sizeLine) {tk : Tok} {arr : Array Value} (ha : arr = its.toArray) :
    Inv X pins σ (upd H s.heap.objs.size (.frz { cls := .type "tuple", data := .seq arr } (.tup xs))) { s with heap := s.heap.push { cls := .type "tuple", data := .seq arr }, toks := tk } := by
  subst ha
  refine I.laid (t' := tk) (fun b u e => Heap.get?_push_of_some _ e) (Nat.le_refl _) ?_
  exact ⟨Heap.get?_push_size _ rfl, z, its, r, ⟨_, Heap.get?_push_size _ rfl, rfl, _, rfl⟩⟩
theorem ep_newT (I : Inv X pins σ H s) (r : Vals xs its) (z : xs.length ≤ sizeLine) {tk : Tok} {arr : Array Value} (ha : arr = its.toArray) {Q : VK} (q : NewT Q H xs) :
    EP X pins σ Q (.ref s.heap.objs.size) { s with heap := s.heap.push { cls := .type "tuple", data := .seq arr }, toks := tk } :=
  ⟨.ref s.heap.objs.size, _, Inv_newT I r z ha, rfl, q _ _ rfl (I.hok.fresh (Nat.le_refl _))⟩
end
/-! a written tuple -/
def tTupN (t : TA) : TE := fun σ H Q => t σ H fun xs H1 => xs.length ≤ sizeLine ∧ NewT Q H1 xs
theorem pe_tupN {X : Cx} {es : List Expr} {t : TA} {pos : Pos} {c : Nat} (h : PA X es t) : PE X (.Tuple es c pos) (tTupN t) := by
  constructor
  intro pins s σ H Q I hq
  refine wpAny_Tuple_spliced (thn (h.run pos pins s σ H _ I hq) ?_)
  rintro us s1 ⟨xs, H1, I1, r, z, q⟩
  exact ⟨by rw [← r.length]; exact z, ep_newT I1 r z rfl q⟩
/-! tuple(x) -/
def rTupN (K : PySem.W.Frag) : List V → Hp → VK → Prop := fun xs H Q => ∃ p ys, xs = [.ref p] ∧ ((SqL K H p ys ∧ NewT Q H ys) ∨ (SqT K H p ys ∧ Q (.ref p) H))
section
variable {X : Cx}
theorem call_tupN : CallR X (.type "tuple") (rTupN X.K) := by
  rintro pins s σ H vs us Q I r ⟨p, ys, rfl, h⟩
  obtain ⟨u, rfl, rx⟩ := vals1 r
  cases rx
  rcases h with ⟨hq, q⟩ | ⟨hq, q⟩
  · obtain ⟨its, rv, pl, z⟩ := I.list hq
    have len := rv.length
    refine call_tuple_list pl.isList (fun g kept => ?_) (by rw [List.size_toArray]; omega)
    exact ep_newT (s := { s with heap := g }) (I.kept (t' := s.toks) kept) rv z rfl q
  · exact call_tuple_of pins s σ H _ _ Q I r ⟨p, ys, rfl, .inr ⟨hq, q⟩⟩
/-! t + u -/
def rCatN (K : PySem.W.Frag) : R2 := fun x y H Q => ∃ a b xs ys, x = .ref a ∧ y = .ref b ∧ SqT K H a xs ∧ SqT K H b ys ∧ xs.length + ys.length ≤ sizeLine ∧
  (xs = [] → Q (.ref b) H) ∧ (xs ≠ [] → ys = [] → Q (.ref a) H) ∧ (xs ≠ [] → ys ≠ [] → NewT Q H (xs ++ ys))
theorem nil_of {xs : List V} {us : List Value} (r : Vals xs us) : us = [] ↔ xs = [] := by
  cases r <;> simp
theorem op_catN : OpR X (binaryOp .Add) (rCatN X.K) := by
  rintro pins s σ H x y v u Q I rx ry ⟨a, b, xs, ys, rfl, rfl, ha, hb, z, q0, q1, q2⟩
  cases rx
  cases ry
  obtain ⟨its, r1, p1, _⟩ := I.tuple ha
  obtain ⟨its2, r2, p2, _⟩ := I.tuple hb
  by_cases hx : xs = []
  · subst hx
    cases r1
    exact cat_tup0 p1 p2 ⟨.ref b, H, I, rfl, q0 rfl⟩
  · have l1 := r1.length
    have l2 := r2.length
    refine HT.cat_tup p1 p2 (fun e => hx ((nil_of r1).mp e)) (fun e => ⟨.ref a, H, I, rfl, q1 hx ((nil_of r2).mp e)⟩) (fun e => ?_) (by omega)
    exact ep_newT (tk := s.toks) I (r1.append r2) (by rw [List.length_append]; exact z) rfl (q2 hx fun e' => e ((nil_of r2).mpr e'))
/-! t[lo:hi] -/
def rCutN (K : PySem.W.Frag) : V → Option Int → Option Int → Hp → VK → Prop := fun x lo hi H Q => ∃ a xs, x = .ref a ∧ SqT K H a xs ∧
  (HT.sIx xs.length 0 lo = 0 ∧ HT.sIx xs.length xs.length hi = xs.length → Q (.ref a) H) ∧ (¬ (HT.sIx xs.length 0 lo = 0 ∧ HT.sIx xs.length xs.length hi = xs.length) → NewT Q H (cutV xs lo hi))
theorem sl_cutN : SlR X (rCutN X.K) := by
  rintro pins s σ H x v vl vu lo hi sl Q I rx hs pl pu ⟨a, xs, rfl, hx, q1, q2⟩
  by_cases hw : HT.sIx xs.length 0 lo = 0 ∧ HT.sIx xs.length xs.length hi = xs.length
  · exact sl_tupA pins s σ H _ v vl vu lo hi sl Q I rx hs pl pu ⟨a, xs, rfl, hx, q1, fun n => (n hw).elim⟩
  · cases rx
    obtain ⟨its, r, ht, z⟩ := I.tuple hx
    have len : its.toArray.size = xs.length := by rw [List.size_toArray]; exact r.length.symm
    refine ⟨"tuple", _, PyProof.Rows.slot_tuple_getitem.lookup, ht.typeIs, ?_⟩
    refine HT.getItem_tuple_cut ht hs pl pu (by rw [len]; exact hw) ?_ (by rw [len]; exact z)
    rw [len]
    exact ep_newT (tk := s.toks) I ((r.drop (HT.sIx xs.length 0 lo)).take (HT.sIx xs.length xs.length hi - HT.sIx xs.length 0 lo)) (Nat.le_trans (cutV_length xs lo hi) z) rfl (q2 hw)
/-! divmod -/
theorem call_divmodN : CallR X (.builtin "divmod") (fun xs H Q => ∃ i j, xs = [V.int i, V.int j] ∧ CDivP i j ∧ NewT Q H [.int (i / j), .int (i % j)]) := by
  rintro pins s σ H xs us Q I r ⟨i, j, rfl, ⟨h1, h2⟩, q⟩
  obtain ⟨u, w', rfl, ⟨t, rfl⟩, ⟨t', rfl⟩⟩ := vals2 r
  refine divmod_int (by omega) ?_ (.inl h2)
  rw [Int.fdiv_eq_ediv_of_nonneg i (by omega), Int.fmod_eq_emod_of_nonneg i (by omega)]
  exact ep_newT (xs := [.int (i / j), .int (i % j)]) (its := [.int (i / j) s.toks, .int (i % j) (s.toks + 1)]) I (.cons ⟨_, rfl⟩ (.cons ⟨_, rfl⟩ .nil)) (by rw [sizeLine_eq]; simp) rfl q
/-! tuple(range(..)) -/
/-! t * n -/
def rRepN (K : PySem.W.Frag) : R2 := fun x y H Q => ∃ l k xs, x = .ref l ∧ y = .int k ∧ SqT K H l xs ∧ xs ≠ [] ∧ 2 ≤ k ∧ k ≤ 1000 ∧ xs.length ≤ 1000 ∧ NewT Q H (List.replicate k.toNat xs).flatten
theorem op_repN : OpR X (binaryOp .Mult) (rRepN X.K) := by
  rintro pins s σ H x y v u Q I rx ry ⟨l, k, xs, rfl, rfl, hT, ne, h1, h2, z, q⟩
  cases rx
  obtain ⟨t, rfl⟩ := ry
  obtain ⟨its, r, ⟨⟨c, dd, dt, sl⟩, ho, hc, n, hd⟩, hs⟩ := I.tuple hT
  simp only at hc hd
  subst hc hd
  have len : its.length = xs.length := r.length.symm
  have full : its.toArray.isEmpty = false := by
    cases its with
    | nil => exact (ne (List.eq_nil_of_length_eq_zero len.symm)).elim
    | cons a b => rfl
  have size : its.toArray.size = xs.length := by rw [List.size_toArray, len]
  have small : ((its.toArray.size : Nat) : Int) * k ≤ 1000000 := by
    rw [size]
    have := Int.mul_le_mul_of_nonneg_right (a := ((xs.length : Nat) : Int)) (b := 1000) (c := k) (by omega) (by omega)
    omega
  have most : k.toNat * xs.length ≤ 1000 * 1000 := Nat.mul_le_mul (by omega) z
  have fits : (List.replicate k.toNat its).flatten.length ≤ sizeLine := by
    rw [PyProof.Rows.lm_len_rep_flat, len, sizeLine_eq]
    omega
  have c0 : (decide (k < -(2 ^ 63)) || decide (k ≥ 2 ^ 63)) = false := by
    rw [decide_eq_false (by omega), decide_eq_false (by omega)]
    rfl
  have c1 : (its.toArray.isEmpty || k == 1) = false := by
    rw [full, Bool.false_or]
    exact beq_eq_false_iff_ne.mpr (by omega)
  have c2 : (decide (k ≤ 0) || its.toArray.isEmpty) = false := by
    rw [full, Bool.or_false]
    exact decide_eq_false (by omega)
  have c4 : Builtin.Tuple.tupleTooMany (((its.toArray.size : Nat) : Int) * k) = false := by
    unfold Builtin.Tuple.tupleTooMany
    rw [sizeLine_eq]
    exact decide_eq_false (by omega)
  refine wpAny_binaryOp_repeat_ref (T := "tuple") (U := "int") (by decide) ⟨_, ho, rfl⟩ (fun s' => typeIs_int s' k t) noFill_tuple_mul F.fills_int_mul F.slot_int_rmul repeat_tuple F.slot_int_index.lookup
    (call_meets F.slot_int_rmul (typeIs_int s k t) F.entry_int_rmul (F.args_int_rmul_2 _ _) (int_rmul_tuple k t l its.toArray n dd sl)
      ⟨ho, rfl, ⟨_, ho, rfl⟩, call_meets F.slot_tuple_mul ⟨_, ho, rfl⟩ F.entry_tuple_mul (F.args_tuple_mul_2 _ _) (tuple_mulW l its.toArray n dd sl k t c0 c1 c2 (by omega) c4 (by rw [size_rep, List.size_toArray]; exact fits)) ⟨ho, ?_⟩⟩)
  exact ep_newT (tk := s.toks) I (r.rep k.toNat) (by rw [PyProof.Rows.lm_len_rep_flat, sizeLine_eq]; omega) (size_rep its k.toNat) q
end
end Dn
set_option Elab.async false
set_option linter.all false
set_option maxRecDepth 100000
namespace Dn
open PySem PySem.Spec PyProof.Rows L2
open Evl (Ex Ex.refl Ex.trans Ex.new fresh_back ex_l ex_t ex_rd)
/-- cells: the lists that may still change, by their numbers -/
abbrev CS := List (Option (List PyData))
/-- what a slot holds: data, or a cell -/
inductive SV where
  | d (x : PyData)
  | c (n : Nat)
  | g (i j : Int)
  | b (n k : Nat)
abbrev Ev := List (Option SV)
abbrev DE := Ev → CS → Option (SV × CS)
abbrev DT := Ev → CS → Option (Bool × CS)
abbrev DA := Ev → CS → Option (List SV × CS)
inductive DO where
  | nx (e : Ev) (C : CS)
  | bk (e : Ev) (C : CS)
  | ct (e : Ev) (C : CS)
  | rt (r : SV) (C : CS)
abbrev DS := Ev → CS → Option DO
/-! ### data in a heap that only grows -/
def kD : Key → PyData
  | .inl i => .int i
  | .inr x => .str x
mutual
inductive Dq (K : PySem.W.Frag) (I : Hp) : V → PyData → Prop
  | non : Dq K I .non .none
  | bl (b : Bool) : Dq K I (.bl b) (.bool b)
  | int (i : Int) : Dq K I (.int i) (.int i)
  | str (x : Str) : Dq K I (.str x) (.str x)
  | lst {a : Addr} {xs : List V} {ds : List PyData} (h : SqL K I a xs) (t : DqAll K I xs ds) : Dq K I (.ref a) (.list ds)
  | tup {a : Addr} {xs : List V} {ds : List PyData} (h : SqN K I a xs) (t : DqAll K I xs ds) : Dq K I (.ref a) (.tuple ds)
  | dct {a : Addr} {kvs : List (Key × V)} {ds : List (PyData × PyData)} (h : I a = some (.dK kvs)) (k : ds.map Prod.fst = kvs.map fun p => kD p.1) (t : DqAll K I (kvs.map Prod.snd) (ds.map Prod.snd)) : Dq K I (.ref a) (.dict ds)
inductive DqAll (K : PySem.W.Frag) (I : Hp) : List V → List PyData → Prop
  | nil : DqAll K I [] []
  | cons {v : V} {vs : List V} {d : PyData} {ds : List PyData} (h : Dq K I v d) (t : DqAll K I vs ds) : DqAll K I (v :: vs) (d :: ds)
end
section
variable {K : PySem.W.Frag} {I J : Hp}
mutual
theorem Dq.up (e : Ex I J) : ∀ {v : V} {d : PyData}, Dq K I v d → Dq K J v d
  | _, _, .non => .non
  | _, _, .bl b => .bl b
  | _, _, .int i => .int i
  | _, _, .str x => .str x
  | _, _, .lst h t => .lst (ex_l e h) (DqAll.up e t)
  | _, _, .tup h t => .tup (ex_n e h) (DqAll.up e t)
  | _, _, .dct h k t => .dct (e _ _ h) k (DqAll.up e t)
theorem DqAll.up (e : Ex I J) : ∀ {vs : List V} {ds : List PyData}, DqAll K I vs ds → DqAll K J vs ds
  | _, _, .nil => .nil
  | _, _, .cons h t => .cons (Dq.up e h) (DqAll.up e t)
end
theorem DqAll.len : ∀ {vs : List V} {ds : List PyData}, DqAll K I vs ds → vs.length = ds.length
  | _, _, .nil => rfl
  | _, _, .cons _ t => by simp [DqAll.len t]
theorem DqAll.app : ∀ {vs ws : List V} {ds es : List PyData}, DqAll K I vs ds → DqAll K I ws es → DqAll K I (vs ++ ws) (ds ++ es)
  | _, _, _, _, .nil, t => t
  | _, _, _, _, .cons h t, u => .cons h (DqAll.app t u)
theorem DqAll.get : ∀ {vs : List V} {ds : List PyData} {i : Nat} {d : PyData}, DqAll K I vs ds → ds[i]? = some d → ∃ v, vs[i]? = some v ∧ Dq K I v d
  | _, _, _, _, .nil, h => by simp at h
  | _, _, 0, _, .cons h _, e => by simp at e; subst e; exact ⟨_, rfl, h⟩
  | _, _, i + 1, _, .cons _ t, e => by
    obtain ⟨v, h1, h2⟩ := DqAll.get (i := i) t (by simpa using e)
    exact ⟨v, by simpa using h1, h2⟩
theorem DqAll.getV : ∀ {vs : List V} {ds : List PyData} {i : Nat} {v : V}, DqAll K I vs ds → vs[i]? = some v → ∃ d, ds[i]? = some d ∧ Dq K I v d
  | _, _, _, _, .nil, h => by simp at h
  | _, _, 0, _, .cons h _, e => by simp at e; subst e; exact ⟨_, rfl, h⟩
  | _, _, i + 1, _, .cons _ t, e => by
    obtain ⟨v, h1, h2⟩ := DqAll.getV (i := i) t (by simpa using e)
    exact ⟨v, by simpa using h1, h2⟩
theorem DqAll.set : ∀ {vs : List V} {ds : List PyData} {v : V} {d : PyData} (i : Nat), DqAll K I vs ds → Dq K I v d → DqAll K I (vs.set i v) (ds.set i d)
  | _, _, _, _, _, .nil, _ => .nil
  | _, _, _, _, 0, .cons _ t, h => .cons h t
  | _, _, _, _, i + 1, .cons g t, h => .cons g (DqAll.set i t h)
theorem DqAll.take : ∀ {vs : List V} {ds : List PyData} (i : Nat), DqAll K I vs ds → DqAll K I (vs.take i) (ds.take i)
  | _, _, 0, _ => .nil
  | _, _, i + 1, .nil => .nil
  | _, _, i + 1, .cons g t => .cons g (DqAll.take i t)
theorem DqAll.drop : ∀ {vs : List V} {ds : List PyData} (i : Nat), DqAll K I vs ds → DqAll K I (vs.drop i) (ds.drop i)
  | _, _, 0, h => h
  | _, _, i + 1, .nil => .nil
  | _, _, i + 1, .cons g t => DqAll.drop i t
end
/-! ### worlds -/
section
variable (K : PySem.W.Frag) (I : Hp)
def RV (μ : List Addr) (v : V) : SV → Prop
  | .d x => Dq K I v x
  | .c n => ∃ a, μ[n]? = some a ∧ v = .ref a
  | .g i j => ∃ a, v = .ref a ∧ I a = some (.rng i j)
  | .b n k => ∃ a us, v = .ref a ∧ SqL K I a us ∧ us.length = k ∧ ∀ i, i < k → ∃ b, us[i]? = some (.ref b) ∧ μ[n + i]? = some b
inductive RVs (μ : List Addr) : List V → List SV → Prop
  | nil : RVs μ [] []
  | cons {v : V} {vs : List V} {r : SV} {rs : List SV} (h : RV K I μ v r) (t : RVs μ vs rs) : RVs μ (v :: vs) (r :: rs)
structure WC (C : CS) (μ : List Addr) (H : Hp) : Prop where
  ex : Ex I H
  len : C.length = μ.length
  nd : μ.Nodup
  cell : ∀ (n : Nat) (xs : List PyData), C[n]? = some (some xs) → ∃ a vs, μ[n]? = some a ∧ I a = none ∧ H a = some (.lst vs) ∧ DqAll K I vs xs
  old : ∀ a, a ∈ μ → H a ≠ none
structure WS (μ : List Addr) (σ : L2.St) (ε : Ev) : Prop where
  len : ε.length = σ.length
  at_ : ∀ (i : Nat) (r : SV), ε[i]? = some (some r) → ∃ v, σ[i]? = some (some v) ∧ RV K I μ v r
end
structure Le (I : Hp) (μ : List Addr) (J : Hp) (ν : List Addr) : Prop where
  ex : Ex I J
  pre : ∃ l, ν = μ ++ l
section
variable {K : PySem.W.Frag} {I J L : Hp} {μ ν ξ : List Addr} {v : V} {r : SV}
theorem Le.refl : Le I μ I μ := ⟨Ex.refl _, [], by simp⟩
theorem Le.trans (a : Le I μ J ν) (b : Le J ν L ξ) : Le I μ L ξ := by
  obtain ⟨l, e⟩ := a.pre
  obtain ⟨m, f⟩ := b.pre
  exact ⟨a.ex.trans b.ex, l ++ m, by rw [f, e, List.append_assoc]⟩
theorem Le.at_ (a : Le I μ J ν) {n : Nat} {x : Addr} (h : μ[n]? = some x) : ν[n]? = some x := by
  obtain ⟨l, e⟩ := a.pre
  rw [e, List.getElem?_append_left (List.getElem?_eq_some_iff.mp h).1]
  exact h
theorem RV.up (a : Le I μ J ν) (h : RV K I μ v r) : RV K J ν v r := by
  cases r with
  | d x => exact Dq.up a.ex h
  | c n =>
    obtain ⟨x, e, f⟩ := h
    exact ⟨x, a.at_ e, f⟩
  | g i j =>
    obtain ⟨x, e, f⟩ := h
    exact ⟨x, e, a.ex _ _ f⟩
  | b n k =>
    obtain ⟨x, us, e, f, g, h⟩ := h
    exact ⟨x, us, e, ex_l a.ex f, g, fun i hi => let ⟨b, h1, h2⟩ := h i hi; ⟨b, h1, a.at_ h2⟩⟩
theorem RVs.up (a : Le I μ J ν) : ∀ {vs : List V} {rs : List SV}, RVs K I μ vs rs → RVs K J ν vs rs
  | _, _, .nil => .nil
  | _, _, .cons h t => .cons (RV.up a h) (RVs.up a t)
theorem RVs.len : ∀ {vs : List V} {rs : List SV}, RVs K I μ vs rs → vs.length = rs.length
  | _, _, .nil => rfl
  | _, _, .cons _ t => by simp [RVs.len t]
theorem WS.up {σ : L2.St} {ε : Ev} (a : Le I μ J ν) (h : WS K I μ σ ε) : WS K J ν σ ε :=
  ⟨h.len, fun i r e => let ⟨v, h1, h2⟩ := h.at_ i r e; ⟨v, h1, RV.up a h2⟩⟩
theorem WS.set {σ : L2.St} {ε : Ev} (h : WS K I μ σ ε) (hv : RV K I μ v r) (i : Nat) : WS K I μ (σ.set i (some v)) (ε.set i (some r)) := by
  refine ⟨by rw [List.length_set, List.length_set]; exact h.len, fun j q e => ?_⟩
  by_cases hj : i = j
  · subst hj
    rw [List.getElem?_set] at e
    rw [List.getElem?_set]
    simp only [if_true] at e ⊢
    by_cases hl : i < ε.length
    · rw [if_pos hl] at e
      cases e
      rw [if_pos (by rw [← h.len]; exact hl)]
      exact ⟨v, rfl, hv⟩
    · rw [if_neg hl] at e
      cases e
  · rw [List.getElem?_set_ne hj] at e
    rw [List.getElem?_set_ne hj]
    exact h.at_ j q e
theorem WS.wipe {σ : L2.St} {ε : Ev} (h : WS K I μ σ ε) : ∀ vs : List Nat, WS K I μ (L2.wipe σ vs) (vs.foldr (fun i (e : Ev) => e.set i none) ε)
  | [] => h
  | i :: vs => by
    have ih := WS.wipe h vs
    refine ⟨?_, fun j q e => ?_⟩
    · show ((vs.foldr (fun i (e : Ev) => e.set i none) ε).set i none).length = ((L2.wipe σ vs).set i none).length
      rw [List.length_set, List.length_set]
      exact ih.len
    · have e : ((vs.foldr (fun i (e : Ev) => e.set i none) ε).set i none)[j]? = some (some q) := e
      show ∃ v, ((L2.wipe σ vs).set i none)[j]? = some (some v) ∧ _
      by_cases hj : i = j
      · subst hj
        rw [List.getElem?_set] at e
        simp only [if_true] at e
        split at e <;> cases e
      · rw [List.getElem?_set_ne hj] at e
        rw [List.getElem?_set_ne hj]
        exact ih.at_ j q e
end
/-! ### judgements -/
section
variable (K : PySem.W.Frag)
def Thn (I : Hp) (μ : List Addr) (C' : CS) (r : SV) (Q : VK) : Prop := ∀ J ν H v, Le I μ J ν → WC K J C' ν H → RV K J ν v r → Q v H
def SE (te : TE) (f : DE) : Prop := ∀ (σ : L2.St) (H : Hp) (ε : Ev) (C : CS) (μ : List Addr) (I : Hp), WC K I C μ H → WS K I μ σ ε → ∀ r C', f ε C = some (r, C') → ∀ Q, Thn K I μ C' r Q → te σ H Q
def ST (tt : TT) (f : DT) : Prop := ∀ (σ : L2.St) (H : Hp) (ε : Ev) (C : CS) (μ : List Addr) (I : Hp), WC K I C μ H → WS K I μ σ ε → ∀ b C', f ε C = some (b, C') → ∀ Q : Bool → Hp → Prop, (∀ J ν H', Le I μ J ν → WC K J C' ν H' → Q b H') → tt σ H Q
def SA (ta : TA) (f : DA) : Prop := ∀ (σ : L2.St) (H : Hp) (ε : Ev) (C : CS) (μ : List Addr) (I : Hp), WC K I C μ H → WS K I μ σ ε → ∀ rs C', f ε C = some (rs, C') → ∀ Q : List V → Hp → Prop, (∀ J ν H' vs, Le I μ J ν → WC K J C' ν H' → RVs K J ν vs rs → Q vs H') → ta σ H Q
/-- an operation on values -/
def R2K (r : R2) (g : SV → SV → CS → Option (SV × CS)) : Prop := ∀ I C μ H, WC K I C μ H → ∀ x y a b, RV K I μ x a → RV K I μ y b → ∀ q C', g a b C = some (q, C') → ∀ Q, Thn K I μ C' q Q → r x y H Q
def RLK (r : List V → Hp → VK → Prop) (g : List SV → CS → Option (SV × CS)) : Prop := ∀ I C μ H, WC K I C μ H → ∀ xs as, RVs K I μ xs as → ∀ q C', g as C = some (q, C') → ∀ Q, Thn K I μ C' q Q → r xs H Q
/-- what is wanted behind a statement, told of the state -/
def EndOk (I : Hp) (μ : List Addr) (D : Ends) : DO → Prop
  | .nx ε C => ∀ J ν H σ, Le I μ J ν → WC K J C ν H → WS K J ν σ ε → D.nx σ H
  | .bk ε C => ∀ J ν H σ, Le I μ J ν → WC K J C ν H → WS K J ν σ ε → D.bk σ H
  | .ct ε C => ∀ J ν H σ, Le I μ J ν → WC K J C ν H → WS K J ν σ ε → D.ct σ H
  | .rt r C => ∀ J ν H v, Le I μ J ν → WC K J C ν H → RV K J ν v r → D.rt v H
def SS (t : TS) (g : DS) : Prop := ∀ (σ : L2.St) (H : Hp) (ε : Ev) (C : CS) (μ : List Addr) (I : Hp), WC K I C μ H → WS K I μ σ ε → ∀ o, g ε C = some o → ∀ D, EndOk K I μ D o → t D σ H
end
section
variable {K : PySem.W.Frag} {I J : Hp} {μ ν : List Addr} {C C' : CS} {r : SV} {Q : VK}
theorem Thn.up (a : Le I μ J ν) (h : Thn K I μ C' r Q) : Thn K J ν C' r Q := fun L ξ H v b w q => h L ξ H v (a.trans b) w q
theorem EndOk.up {D : Ends} {o : DO} (a : Le I μ J ν) (h : EndOk K I μ D o) : EndOk K J ν D o := by
  cases o with
  | nx e C => exact fun L ξ H s b => h L ξ H s (a.trans b)
  | bk e C => exact fun L ξ H s b => h L ξ H s (a.trans b)
  | ct e C => exact fun L ξ H s b => h L ξ H s (a.trans b)
  | rt r C => exact fun L ξ H s b => h L ξ H s (a.trans b)
end
end Dn
set_option Elab.async false
set_option linter.all false
set_option maxRecDepth 100000
namespace Dn
open PySem PySem.Spec PyProof.Rows L2
open Evl (Ex Ex.refl Ex.trans Ex.new fresh_back ex_l ex_t ex_rd)
section
variable {K : PySem.W.Frag} {I J : Hp} {μ ν : List Addr} {C C' : CS} {H : Hp}
theorem Ex.both {p : Addr} {o : HO} (e : Ex I H) (h : H p = none) : Ex (upd I p o) (upd H p o) := fun a u q => by
  by_cases hp : a = p
  · subst hp
    rw [upd_same] at q ⊢
    exact q
  · rw [upd_ne hp] at q ⊢
    exact e a u q
/-- a new thing that never changes -/
theorem WC.newD (w : WC K I C μ H) {p : Addr} {o : HO} (h : H p = none) : WC K (upd I p o) C μ (upd H p o) ∧ Le I μ (upd I p o) μ ∧ (upd I p o) p = some o := by
  have hI : I p = none := fresh_back w.ex h
  have ex : Ex I (upd I p o) := Ex.new hI
  refine ⟨⟨Ex.both w.ex h, w.len, w.nd, fun n xs e => ?_, fun a ha => ?_⟩, ⟨ex, [], by simp⟩, upd_same⟩
  · obtain ⟨a, vs, h1, h2, h3, h4⟩ := w.cell n xs e
    have hne : a ≠ p := fun z => by rw [z, h] at h3; cases h3
    exact ⟨a, vs, h1, by rw [upd_ne hne]; exact h2, by rw [upd_ne hne]; exact h3, h4.up ex⟩
  · have hne : a ≠ p := fun z => w.old a ha (by rw [z]; exact h)
    rw [upd_ne hne]
    exact w.old a ha
/-- a new cell -/
theorem WC.newC (w : WC K I C μ H) {p : Addr} {vs : List V} {xs : List PyData} (h : H p = none) (d : DqAll K I vs xs) : WC K I (C ++ [some xs]) (μ ++ [p]) (upd H p (.lst vs)) ∧ Le I μ I (μ ++ [p]) ∧ (μ ++ [p])[C.length]? = some p := by
  have hI : I p = none := fresh_back w.ex h
  have hp : p ∉ μ := fun z => w.old p z h
  refine ⟨⟨fun a o q => ?_, by simp [w.len], ?_, fun n ys e => ?_, fun a ha => ?_⟩, ⟨Ex.refl _, [p], rfl⟩, by rw [w.len]; simp⟩
  · have hne : a ≠ p := fun z => by rw [z, hI] at q; cases q
    rw [upd_ne hne]
    exact w.ex a o q
  · rw [List.nodup_append]
    refine ⟨w.nd, by simp, fun a ha b hb => ?_⟩
    rw [List.mem_singleton] at hb
    subst hb
    exact fun z => hp (z ▸ ha)
  · by_cases hn : n < C.length
    · rw [List.getElem?_append_left hn] at e
      obtain ⟨a, ws, h1, h2, h3, h4⟩ := w.cell n ys e
      have hne : a ≠ p := fun z => by rw [z, h] at h3; cases h3
      refine ⟨a, ws, ?_, h2, by rw [upd_ne hne]; exact h3, h4⟩
      rw [List.getElem?_append_left (by rw [← w.len]; exact hn)]
      exact h1
    · rw [List.getElem?_append_right (by omega)] at e
      have hz : n - C.length = 0 := by
        by_cases hz : n - C.length = 0
        · exact hz
        · rw [List.getElem?_eq_none (by simp; omega)] at e
          cases e
      rw [hz] at e
      have e' : xs = ys := by simpa using e
      subst e'
      refine ⟨p, vs, ?_, hI, upd_same, d⟩
      have : n = μ.length := by rw [← w.len]; omega
      rw [this]
      simp
  · rcases List.mem_append.mp ha with z | z
    · have hne : a ≠ p := fun q => hp (q ▸ z)
      rw [upd_ne hne]
      exact w.old a z
    · rw [List.mem_singleton.mp z, upd_same]
      exact fun q => nomatch q
/-- a cell is written -/
theorem WC.put (w : WC K I C μ H) {n : Nat} {a : Addr} {xs ys : List PyData} {vs : List V} (e : C[n]? = some (some xs)) (ha : μ[n]? = some a) (d : DqAll K I vs ys) : WC K I (C.set n (some ys)) μ (upd H a (.lst vs)) := by
  obtain ⟨a', ws, h1, h2, h3, h4⟩ := w.cell n xs e
  have ea : a' = a := Option.some.inj (h1.symm.trans ha)
  subst ea
  refine ⟨fun b o q => ?_, by rw [List.length_set]; exact w.len, w.nd, fun m zs f => ?_, fun b hb => ?_⟩
  · have hne : b ≠ a' := fun z => by rw [z, h2] at q; cases q
    rw [upd_ne hne]
    exact w.ex b o q
  · by_cases hm : n = m
    · subst hm
      rw [List.getElem?_set_self (List.getElem?_eq_some_iff.mp e).1] at f
      cases f
      exact ⟨a', vs, h1, h2, upd_same, d⟩
    · rw [List.getElem?_set_ne hm] at f
      obtain ⟨b, us, g1, g2, g3, g4⟩ := w.cell m zs f
      have hne : b ≠ a' := fun z => by
        subst z
        exact hm (nd_ix w.nd h1 g1)
      exact ⟨b, us, g1, g2, by rw [upd_ne hne]; exact g3, g4⟩
  · by_cases hz : b = a'
    · subst hz
      rw [upd_same]
      exact fun q => nomatch q
    · rw [upd_ne hz]
      exact w.old b hb
/-- a cell becomes data -/
theorem WC.frz (w : WC K I C μ H) {n : Nat} {xs : List PyData} (e : C[n]? = some (some xs)) : ∃ a J, μ[n]? = some a ∧ Le I μ J μ ∧ WC K J (C.set n none) μ H ∧ Dq K J (.ref a) (.list xs) := by
  obtain ⟨a, vs, h1, h2, h3, h4⟩ := w.cell n xs e
  have ex : Ex I (upd I a (.lst vs)) := Ex.new h2
  refine ⟨a, upd I a (.lst vs), h1, ⟨ex, [], by simp⟩, ⟨fun b o q => ?_, by rw [List.length_set]; exact w.len, w.nd, fun m zs f => ?_, w.old⟩, .lst (.inl (.inl upd_same)) (h4.up ex)⟩
  · by_cases hb : b = a
    · subst hb
      rw [upd_same] at q
      cases q
      exact h3
    · rw [upd_ne hb] at q
      exact w.ex b o q
  · by_cases hm : n = m
    · subst hm
      rw [List.getElem?_set_self (List.getElem?_eq_some_iff.mp e).1] at f
      cases f
    · rw [List.getElem?_set_ne hm] at f
      obtain ⟨b, us, g1, g2, g3, g4⟩ := w.cell m zs f
      have hne : b ≠ a := fun z => by
        subst z
        exact hm (nd_ix w.nd h1 g1)
      exact ⟨b, us, g1, by rw [upd_ne hne]; exact g2, g3, g4.up ex⟩
end
/-! ### from a slot to data -/
def cellAt (C : CS) (n : Nat) : Option (List PyData) := (C[n]?).bind id
theorem cellAt_of {C : CS} {n : Nat} {xs : List PyData} (h : cellAt C n = some xs) : C[n]? = some (some xs) := by
  obtain ⟨o, e1, e2⟩ := Option.bind_eq_some_iff.mp h
  rw [e1, show o = some xs from e2]
def frz : SV → CS → Option (PyData × CS)
  | .d x, C => some (x, C)
  | .c n, C => (cellAt C n).map fun xs => (.list xs, C.set n none)
  | .g _ _, _ => none
  | .b _ _, _ => none
def frzs : List SV → CS → Option (List PyData × CS)
  | [], C => some ([], C)
  | r :: rs, C => (frz r C).bind fun (d, C1) => (frzs rs C1).bind fun (ds, C2) => some (d :: ds, C2)
/-- a list that is read -/
def rdL : SV → CS → Option (List PyData)
  | .d (.list xs), _ => some xs
  | .c n, C => cellAt C n
  | _, _ => none
/-- any list or tuple that is read -/
def rdS : SV → CS → Option (List PyData)
  | .d (.tuple xs), _ => some xs
  | r, C => rdL r C
/-- as data, only looked at -/
def rdD : SV → CS → Option PyData
  | .d x, _ => some x
  | .c n, C => (cellAt C n).map .list
  | .g _ _, _ => none
  | .b _ _, _ => none
section
variable {K : PySem.W.Frag} {I J : Hp} {μ ν : List Addr} {C C' : CS} {H : Hp} {v : V} {r : SV}
theorem frz_ok (w : WC K I C μ H) (h : RV K I μ v r) {d : PyData} (e : frz r C = some (d, C')) : ∃ J, Le I μ J μ ∧ WC K J C' μ H ∧ Dq K J v d := by
  cases r with
  | d x =>
    cases e
    exact ⟨I, Le.refl, w, h⟩
  | c n =>
    obtain ⟨a, h1, rfl⟩ := h
    obtain ⟨xs, q, e⟩ := Option.map_eq_some_iff.mp e
    cases e
    obtain ⟨b, J, g1, g2, g3, g4⟩ := w.frz (cellAt_of q)
    have : a = b := Option.some.inj (h1.symm.trans g1)
    subst this
    exact ⟨J, g2, g3, g4⟩
  | g i j => cases e
  | b n k => cases e
theorem frzs_ok : ∀ {rs : List SV} {vs : List V} {ds : List PyData} {I : Hp} {C C' : CS}, WC K I C μ H → RVs K I μ vs rs → frzs rs C = some (ds, C') → ∃ J, Le I μ J μ ∧ WC K J C' μ H ∧ DqAll K J vs ds
  | [], _, _, I, C, C', w, .nil, e => by
    cases e
    exact ⟨I, Le.refl, w, .nil⟩
  | r :: rs, _, ds, I, C, C', w, .cons h t, e => by
    unfold frzs at e
    obtain ⟨⟨d, C1⟩, e1, e⟩ := Option.bind_eq_some_iff.mp e
    obtain ⟨⟨ds', C2⟩, e2, e⟩ := Option.bind_eq_some_iff.mp e
    cases e
    obtain ⟨J, g1, g2, g3⟩ := frz_ok w h e1
    obtain ⟨L, k1, k2, k3⟩ := frzs_ok g2 (t.up g1) e2
    exact ⟨L, g1.trans k1, k2, .cons (g3.up k1.ex) k3⟩
theorem rdL_ok (w : WC K I C μ H) (h : RV K I μ v r) {xs : List PyData} (e : rdL r C = some xs) : ∃ a vs, v = .ref a ∧ SqL K H a vs ∧ DqAll K I vs xs := by
  cases r with
  | d x =>
    cases x <;> first | (cases e; done) | skip
    cases e
    have h : Dq K I v (.list _) := h
    cases h with
    | lst hh t => exact ⟨_, _, rfl, ex_l w.ex hh, t⟩
  | c n =>
    obtain ⟨a, h1, rfl⟩ := h
    obtain ⟨b, vs, g1, g2, g3, g4⟩ := w.cell n _ (cellAt_of e)
    have : a = b := Option.some.inj (h1.symm.trans g1)
    subst this
    exact ⟨a, vs, rfl, .inl (.inl g3), g4⟩
  | g i j => cases e
  | b n k => cases e
theorem rdS_ok (w : WC K I C μ H) (h : RV K I μ v r) {xs : List PyData} (e : rdS r C = some xs) : ∃ a vs, v = .ref a ∧ (SqL K H a vs ∨ SqT K H a vs) ∧ DqAll K I vs xs := by
  by_cases q : ∃ x, r = .d (.tuple x)
  · obtain ⟨x, rfl⟩ := q
    cases e
    have h : Dq K I v (.tuple _) := h
    cases h with
    | tup hh t => exact ⟨_, _, rfl, .inr (ex_t w.ex hh.t), t⟩
  · have e' : rdL r C = some xs := by
      unfold rdS at e
      split at e
      · exact absurd ⟨_, rfl⟩ q
      · exact e
    obtain ⟨a, vs, h1, h2, h3⟩ := rdL_ok w h e'
    exact ⟨a, vs, h1, .inl h2, h3⟩
theorem rdC_ok (w : WC K I C μ H) {n : Nat} (h : RV K I μ v (.c n)) {xs : List PyData} (e : C[n]? = some (some xs)) : ∃ a vs, v = .ref a ∧ μ[n]? = some a ∧ H a = some (.lst vs) ∧ DqAll K I vs xs := by
  obtain ⟨a, h1, rfl⟩ := h
  obtain ⟨b, vs, g1, g2, g3, g4⟩ := w.cell n _ e
  have : a = b := Option.some.inj (h1.symm.trans g1)
  subst this
  exact ⟨a, vs, rfl, h1, g3, g4⟩
end
/-! ### expressions -/
def dVar (i : Nat) : DE := fun ε C => match ε[i]? with
  | some (some r) => some (r, C)
  | _ => none
def dC (x : PyData) : DE := fun _ C => some (.d x, C)
def dOp (g : SV → SV → CS → Option (SV × CS)) (fa fb : DE) : DE := fun ε C => (fa ε C).bind fun (a, C1) => (fb ε C1).bind fun (b, C2) => g a b C2
def dUn (g : SV → CS → Option (SV × CS)) (fa : DE) : DE := fun ε C => (fa ε C).bind fun (a, C1) => g a C1
def dTest (fa : DE) : DT := fun ε C => (fa ε C).bind fun (a, C1) => match a with
  | .d (.bool b) => some (b, C1)
  | _ => none
def dAnd (t u : DT) : DT := fun ε C => (t ε C).bind fun (b, C1) => if b = true then u ε C1 else some (false, C1)
def dOr (t u : DT) : DT := fun ε C => (t ε C).bind fun (b, C1) => if b = true then some (true, C1) else u ε C1
def dNot (t : DT) : DT := fun ε C => (t ε C).bind fun (b, C1) => some (!b, C1)
def dAndV (fa fb : DE) : DE := fun ε C => (dTest fa ε C).bind fun (b, C1) => if b = true then fb ε C1 else some (.d (.bool false), C1)
def dOrV (fa fb : DE) : DE := fun ε C => (dTest fa ε C).bind fun (b, C1) => if b = true then some (.d (.bool true), C1) else fb ε C1
def dNotV (fa : DE) : DE := fun ε C => (dTest fa ε C).bind fun (b, C1) => some (.d (.bool !b), C1)
def dIf (t : DT) (fa fb : DE) : DE := fun ε C => (t ε C).bind fun (b, C1) => if b = true then fa ε C1 else fb ε C1
def dNil : DA := fun _ C => some ([], C)
def dCons (fa : DE) (fr : DA) : DA := fun ε C => (fa ε C).bind fun (a, C1) => (fr ε C1).bind fun (rs, C2) => some (a :: rs, C2)
def dCall (g : List SV → CS → Option (SV × CS)) (fa : DA) : DE := fun ε C => (fa ε C).bind fun (rs, C1) => g rs C1
def gTup (rs : List SV) (C : CS) : Option (SV × CS) := (frzs rs C).bind fun (ds, C1) => if ds.length ≤ 10000 then some (.d (.tuple ds), C1) else none
def gLst (rs : List SV) (C : CS) : Option (SV × CS) := (frzs rs C).bind fun (ds, C1) => if ds.length ≤ 10000 then some (.c C1.length, C1 ++ [some ds]) else none
/-- a chain of two comparisons -/
def dChain (g g' : SV → SV → CS → Option (SV × CS)) (fa fb fc : DE) : DE := fun ε C => (fa ε C).bind fun (a, C1) => (fb ε C1).bind fun (b, C2) => (g a b C2).bind fun (q, C3) => match q with
  | .d (.bool k) => if k = true then (fc ε C3).bind fun (c, C4) => g' b c C4 else some (.d (.bool false), C3)
  | _ => none
theorem le_line {n : Nat} (h : n ≤ 10000) : n ≤ sizeLine := Nat.le_trans h (by decide)
section
variable {K : PySem.W.Frag} {ta tb tc te : TE} {fa fb fc : DE} {t u : TT} {f g : DT}
theorem se_var {i : Nat} : SE K (tVar i) (dVar i) := fun σ H ε C μ I w s r C' e Q q => by
  unfold dVar at e
  split at e
  · rename_i r' h
    cases e
    obtain ⟨v, h1, h2⟩ := s.at_ i _ h
    exact ⟨v, h1, q I μ H v Le.refl w h2⟩
  · cases e
theorem se_c {v : V} {x : PyData} (h : ∀ I, Dq K I v x) : SE K (tC v) (dC x) := fun σ H ε C μ I w s r C' e Q q => by
  cases e
  exact q I μ H v Le.refl w (h I)
theorem se_op {r : R2} {g : SV → SV → CS → Option (SV × CS)} (hr : R2K K r g) (ha : SE K ta fa) (hb : SE K tb fb) : SE K (tOp r ta tb) (dOp g fa fb) := fun σ H ε C μ I w s r C' e Q q => by
  obtain ⟨⟨a, C1⟩, e1, e⟩ := Option.bind_eq_some_iff.mp e
  obtain ⟨⟨b, C2⟩, e2, e⟩ := Option.bind_eq_some_iff.mp e
  refine ha σ H ε C μ I w s a C1 e1 _ fun J ν H1 x l1 w1 r1 => ?_
  refine hb σ H1 ε C1 ν J w1 (s.up l1) b C2 e2 _ fun L ξ H2 y l2 w2 r2 => ?_
  exact hr L C2 ξ H2 w2 x y a b (r1.up l2) r2 _ C' e Q (q.up (l1.trans l2))
theorem dTest_ok {ε : Ev} {C C' : CS} {b : Bool} (e : dTest fa ε C = some (b, C')) : fa ε C = some (.d (.bool b), C') := by
  obtain ⟨⟨a, C1⟩, e1, e⟩ := Option.bind_eq_some_iff.mp e
  simp only at e
  split at e
  · cases e
    exact e1
  · cases e
theorem rv_bool {I : Hp} {μ : List Addr} {v : V} {b : Bool} (h : RV K I μ v (.d (.bool b))) : v = .bl b := by
  have h : Dq K I v (.bool b) := h
  cases h
  rfl
theorem rv_int {I : Hp} {μ : List Addr} {v : V} {b : Int} (h : RV K I μ v (.d (.int b))) : v = .int b := by
  have h : Dq K I v (.int b) := h
  cases h
  rfl
theorem rv_non {I : Hp} {μ : List Addr} {v : V} (h : RV K I μ v (.d .none)) : v = .non := by
  have h : Dq K I v .none := h
  cases h
  rfl
theorem st_test (h : SE K te fa) : ST K (tTest te) (dTest fa) := fun σ H ε C μ I w s b C' e Q q => by
  refine h σ H ε C μ I w s _ C' (dTest_ok e) _ fun J ν H1 x l1 w1 r1 => ?_
  exact ⟨b, rv_bool r1, q J ν H1 l1 w1⟩
theorem st_tB (h : SE K te fa) : ST K (tB te) (dTest fa) := fun σ H ε C μ I w s b C' e Q q => by
  refine h σ H ε C μ I w s _ C' (dTest_ok e) _ fun J ν H1 x l1 w1 r1 => ?_
  exact ⟨b, rv_bool r1, q J ν H1 l1 w1⟩
theorem st_and (h : ST K t f) (k : ST K u g) : ST K (tAnd t u) (dAnd f g) := fun σ H ε C μ I w s b C' e Q q => by
  obtain ⟨⟨a, C1⟩, e1, e⟩ := Option.bind_eq_some_iff.mp e
  refine h σ H ε C μ I w s a C1 e1 _ fun J ν H1 l1 w1 => ?_
  cases a with
  | true => exact k σ H1 ε C1 ν J w1 (s.up l1) b C' e Q fun L ξ H2 l2 => q L ξ H2 (l1.trans l2)
  | false =>
    cases e
    exact q J ν H1 l1 w1
theorem st_or (h : ST K t f) (k : ST K u g) : ST K (tOr t u) (dOr f g) := fun σ H ε C μ I w s b C' e Q q => by
  obtain ⟨⟨a, C1⟩, e1, e⟩ := Option.bind_eq_some_iff.mp e
  refine h σ H ε C μ I w s a C1 e1 _ fun J ν H1 l1 w1 => ?_
  cases a with
  | false => exact k σ H1 ε C1 ν J w1 (s.up l1) b C' e Q fun L ξ H2 l2 => q L ξ H2 (l1.trans l2)
  | true =>
    cases e
    exact q J ν H1 l1 w1
theorem st_not (h : ST K t f) : ST K (tNot t) (dNot f) := fun σ H ε C μ I w s b C' e Q q => by
  obtain ⟨⟨a, C1⟩, e1, e⟩ := Option.bind_eq_some_iff.mp e
  cases e
  exact h σ H ε C μ I w s a _ e1 _ fun J ν H1 l1 w1 => q J ν H1 l1 w1
theorem se_andV (h : SE K ta fa) (k : SE K tb fb) : SE K (tAndV ta tb) (dAndV fa fb) := fun σ H ε C μ I w s b C' e Q q => by
  obtain ⟨⟨a, C1⟩, e1, e⟩ := Option.bind_eq_some_iff.mp e
  refine h σ H ε C μ I w s _ C1 (dTest_ok e1) _ fun J ν H1 x l1 w1 r1 => ⟨a, rv_bool r1, ?_⟩
  cases a with
  | true => exact k σ H1 ε C1 ν J w1 (s.up l1) b C' e Q (q.up l1)
  | false =>
    cases e
    exact q J ν H1 _ l1 w1 (Dq.bl false)
theorem se_notV (h : SE K ta fa) : SE K (tNotV ta) (dNotV fa) := fun σ H ε C μ I w s b C' e Q q => by
  obtain ⟨⟨a, C1⟩, e1, e⟩ := Option.bind_eq_some_iff.mp e
  cases e
  refine h σ H ε C μ I w s _ _ (dTest_ok e1) _ fun J ν H1 x l1 w1 r1 => ⟨a, rv_bool r1, ?_⟩
  exact q J ν H1 _ l1 w1 (Dq.bl _)
theorem se_if (h : ST K t f) (ha : SE K ta fa) (hb : SE K tb fb) : SE K (tIf t ta tb) (dIf f fa fb) := fun σ H ε C μ I w s b C' e Q q => by
  obtain ⟨⟨a, C1⟩, e1, e⟩ := Option.bind_eq_some_iff.mp e
  refine h σ H ε C μ I w s a C1 e1 _ fun J ν H1 l1 w1 => ?_
  cases a with
  | true => exact ha σ H1 ε C1 ν J w1 (s.up l1) b C' e Q (q.up l1)
  | false => exact hb σ H1 ε C1 ν J w1 (s.up l1) b C' e Q (q.up l1)
theorem sa_nil : SA K tNil dNil := fun σ H ε C μ I w s rs C' e Q q => by
  cases e
  exact q I μ H [] Le.refl w .nil
theorem sa_cons {tr : TA} {fr : DA} (h : SE K ta fa) (k : SA K tr fr) : SA K (tCons ta tr) (dCons fa fr) := fun σ H ε C μ I w s rs C' e Q q => by
  obtain ⟨⟨a, C1⟩, e1, e⟩ := Option.bind_eq_some_iff.mp e
  obtain ⟨⟨rs', C2⟩, e2, e⟩ := Option.bind_eq_some_iff.mp e
  cases e
  refine h σ H ε C μ I w s a C1 e1 _ fun J ν H1 x l1 w1 r1 => ?_
  refine k σ H1 ε C1 ν J w1 (s.up l1) rs' _ e2 _ fun L ξ H2 xs l2 w2 r2 => ?_
  exact q L ξ H2 (x :: xs) (l1.trans l2) w2 (.cons (r1.up l2) r2)
theorem se_cb {r : List V → Hp → VK → Prop} {g : List SV → CS → Option (SV × CS)} {ta : TA} {fa : DA} (hr : RLK K r g) (h : SA K ta fa) : SE K (tCB r ta) (dCall g fa) := fun σ H ε C μ I w s b C' e Q q => by
  obtain ⟨⟨rs, C1⟩, e1, e⟩ := Option.bind_eq_some_iff.mp e
  refine h σ H ε C μ I w s rs C1 e1 _ fun J ν H1 xs l1 w1 r1 => ?_
  exact hr J C1 ν H1 w1 xs rs r1 b C' e Q (q.up l1)
theorem se_tup {ta : TA} {fa : DA} (h : SA K ta fa) : SE K (tTupN ta) (dCall gTup fa) := fun σ H ε C μ I w s b C' e Q q => by
  obtain ⟨⟨rs, C1⟩, e1, e⟩ := Option.bind_eq_some_iff.mp e
  refine h σ H ε C μ I w s rs C1 e1 _ fun J ν H1 xs l1 w1 r1 => ?_
  obtain ⟨⟨ds, C2⟩, e2, e⟩ := Option.bind_eq_some_iff.mp e
  simp only at e
  split at e
  · rename_i hl
    cases e
    obtain ⟨L, l2, w2, d2⟩ := frzs_ok w1 r1 e2
    refine ⟨by rw [d2.len]; exact le_line hl, fun p ob hob hp => ?_⟩
    obtain ⟨w3, l3, h3⟩ := w2.newD (o := .frz ob (.tup xs)) hp
    exact q _ _ _ _ ((l1.trans l2).trans l3) w3 (Dq.tup (SqN.of hob h3) (d2.up l3.ex))
  · cases e
theorem se_lst {ta : TA} {fa : DA} (h : SA K ta fa) : SE K (tLst ta) (dCall gLst fa) := fun σ H ε C μ I w s b C' e Q q => by
  obtain ⟨⟨rs, C1⟩, e1, e⟩ := Option.bind_eq_some_iff.mp e
  refine h σ H ε C μ I w s rs C1 e1 _ fun J ν H1 xs l1 w1 r1 => ?_
  obtain ⟨⟨ds, C2⟩, e2, e⟩ := Option.bind_eq_some_iff.mp e
  simp only at e
  split at e
  · rename_i hl
    cases e
    obtain ⟨L, l2, w2, d2⟩ := frzs_ok w1 r1 e2
    refine ⟨by rw [d2.len]; exact le_line hl, fun p hp => ?_⟩
    obtain ⟨w3, l3, h3⟩ := w2.newC hp d2
    exact q _ _ _ _ ((l1.trans l2).trans l3) w3 ⟨p, h3, rfl⟩
  · cases e
theorem se_chain {r r' : R2} {g g' : SV → SV → CS → Option (SV × CS)} (hr : R2K K r g) (hr' : R2K K r' g') (ha : SE K ta fa) (hb : SE K tb fb) (hc : SE K tc fc) : SE K (tChain r r' ta tb tc) (dChain g g' fa fb fc) := fun σ H ε C μ I w s z C' e Q q => by
  obtain ⟨⟨a, C1⟩, e1, e⟩ := Option.bind_eq_some_iff.mp e
  obtain ⟨⟨b, C2⟩, e2, e⟩ := Option.bind_eq_some_iff.mp e
  obtain ⟨⟨k, C3⟩, e3, e⟩ := Option.bind_eq_some_iff.mp e
  refine ha σ H ε C μ I w s a C1 e1 _ fun J ν H1 x l1 w1 r1 => ?_
  refine hb σ H1 ε C1 ν J w1 (s.up l1) b C2 e2 _ fun L ξ H2 y l2 w2 r2 => ?_
  refine hr L C2 ξ H2 w2 x y a b (r1.up l2) r2 _ C3 e3 _ fun M π H3 u l3 w3 r3 => ?_
  simp only at e
  split at e
  · rename_i kk
    refine ⟨kk, rv_bool r3, ?_⟩
    cases kk with
    | true =>
      obtain ⟨⟨c, C4⟩, e4, e⟩ := Option.bind_eq_some_iff.mp (show ((fc ε C3).bind fun x => g' b x.1 x.2) = some (z, C') from e)
      refine hc σ H3 ε C3 π M w3 (s.up ((l1.trans l2).trans l3)) c C4 e4 _ fun N ρ H4 y4 l4 w4 r4 => ?_
      exact hr' N C4 ρ H4 w4 y y4 b c (r2.up (l3.trans l4)) r4 _ C' e Q (q.up (((l1.trans l2).trans l3).trans l4))
    | false =>
      cases e
      exact q M π H3 _ ((l1.trans l2).trans l3) w3 (Dq.bl false)
  · cases e
end
end Dn
set_option Elab.async false
set_option linter.all false
set_option maxRecDepth 100000
namespace Dn
open PySem PySem.Spec PyProof.Rows L2
open Evl (Ex Ex.refl Ex.trans Ex.new fresh_back ex_l ex_t ex_rd)
/-! ### operations -/
/-- of two ints -/
def gI (f : Int → Int → Option PyData) (a b : SV) (C : CS) : Option (SV × CS) := match a, b with
  | .d (.int i), .d (.int j) => (f i j).map fun x => (.d x, C)
  | _, _ => none
def gAdd (a b : SV) (C : CS) : Option (SV × CS) := match a, b with
  | .d (.int i), .d (.int j) => some (.d (.int (i + j)), C)
  | .d (.tuple xs), .d (.tuple ys) => if xs.length + ys.length ≤ 10000 then some (.d (.tuple (xs ++ ys)), C) else none
  | .c n, .c m => (cellAt C n).bind fun xs => (cellAt C m).bind fun ys => if xs.length + ys.length ≤ 10000 then some (.c C.length, C ++ [some (xs ++ ys)]) else none
  | _, _ => none
def gSub : SV → SV → CS → Option (SV × CS) := gI fun i j => some (.int (i - j))
def gMod : SV → SV → CS → Option (SV × CS) := gI fun i j => if 0 < j then some (.int (i % j)) else none
def gDiv : SV → SV → CS → Option (SV × CS) := gI fun i j => if 0 < j ∧ j < 2 ^ 64 then some (.int (i / j)) else none
def gPow : SV → SV → CS → Option (SV × CS) := gI fun i j => if 0 ≤ j ∧ j ≤ 1000 ∧ i.natAbs < 2 ^ 64 then some (.int (i ^ j.toNat)) else none
def gMul (a b : SV) (C : CS) : Option (SV × CS) := match a, b with
  | .d (.int i), .d (.int j) => if i.natAbs < 2 ^ 64 ∨ j.natAbs < 2 ^ 64 then some (.d (.int (i * j)), C) else none
  | .d (.tuple xs), .d (.int k) => if xs ≠ [] ∧ 2 ≤ k ∧ k ≤ 100 ∧ xs.length ≤ 100 then some (.d (.tuple (List.replicate k.toNat xs).flatten), C) else none
  | .c n, .d (.int k) => (cellAt C n).bind fun xs => if -(2 ^ 60) ≤ k ∧ k ≤ 100 ∧ xs.length ≤ 100 then some (.c C.length, C ++ [some (List.replicate k.toNat xs).flatten]) else none
  | _, _ => none
def gLt : SV → SV → CS → Option (SV × CS) := gI fun i j => some (.bool (decide (i < j)))
def gLe : SV → SV → CS → Option (SV × CS) := gI fun i j => some (.bool (decide (i ≤ j)))
def gGt : SV → SV → CS → Option (SV × CS) := gI fun i j => some (.bool (decide (j < i)))
def gGe : SV → SV → CS → Option (SV × CS) := gI fun i j => some (.bool (decide (j ≤ i)))
/-- is None, is a truth -/
def isV (a b : PyData) : Option Bool := match a, b with
  | .none, .none => some true
  | .bool x, .bool y => some (decide (x = y))
  | _, .none => some false
  | _, _ => none
def gIs (a b : SV) (C : CS) : Option (SV × CS) := match a, b with
  | .d x, .d y => (isV x y).map fun k => (.d (.bool k), C)
  | .c _, .d .none => some (.d (.bool false), C)
  | _, _ => none
def gIsnt (a b : SV) (C : CS) : Option (SV × CS) := match a, b with
  | .d x, .d y => (isV x y).map fun k => (.d (.bool !k), C)
  | .c _, .d .none => some (.d (.bool true), C)
  | _, _ => none
mutual
def plain : PyData → Bool
  | .dict _ => false
  | .list xs => plains xs
  | .tuple xs => plains xs
  | _ => true
def plains : List PyData → Bool
  | [] => true
  | x :: xs => plain x && plains xs
end
def gNeg (a : SV) (C : CS) : Option (SV × CS) := match a with
  | .d (.int i) => some (.d (.int (-i)), C)
  | _ => none
/-- a subscript -/
def gIx (a b : SV) (C : CS) : Option (SV × CS) := match b with
  | .d (.int i) => (rdS a C).bind fun xs => (atI xs i).map fun x => (.d x, C)
  | _ => none
def cutD (xs : List PyData) (lo hi : Option Int) : List PyData := (xs.drop (HT.sIx xs.length 0 lo)).take (HT.sIx xs.length xs.length hi - HT.sIx xs.length 0 lo)
def gCut (a : SV) (lo hi : Option Int) (C : CS) : Option (SV × CS) := match a with
  | .d (.tuple xs) => some (.d (.tuple (cutD xs lo hi)), C)
  | a => (rdL a C).map fun xs => (.c C.length, C ++ [some (cutD xs lo hi)])
section
variable {K : PySem.W.Frag}
mutual
theorem Dq.dp {I H : Hp} (e : Ex I H) : ∀ {v : V} {d : PyData}, plain d = true → Dq K I v d → Dp K H v d
  | _, _, _, .non => .non
  | _, _, _, .bl b => .bl b
  | _, _, _, .int i => .int i
  | _, _, _, .str x => .str x
  | _, _, p, .lst h t => .lst (ex_l e h) (DqAll.dp e (by simpa [plain] using p) t)
  | _, _, p, .tup h t => .tup (ex_t e h.t) (DqAll.dp e (by simpa [plain] using p) t)
  | _, _, p, .dct _ _ _ => by simp [plain] at p
theorem DqAll.dp {I H : Hp} (e : Ex I H) : ∀ {vs : List V} {ds : List PyData}, plains ds = true → DqAll K I vs ds → DpAll K H vs ds
  | _, _, _, .nil => .nil
  | _, _, p, .cons h t => by
    simp only [plains, Bool.and_eq_true] at p
    exact .cons (Dq.dp e p.1 h) (DqAll.dp e p.2 t)
end
theorem gI_of {f : Int → Int → Option PyData} {a b q : SV} {C C' : CS} (e : gI f a b C = some (q, C')) : ∃ i j x, a = .d (.int i) ∧ b = .d (.int j) ∧ f i j = some x ∧ q = .d x ∧ C' = C := by
  unfold gI at e
  split at e
  · obtain ⟨x, h1, h2⟩ := Option.map_eq_some_iff.mp e
    cases h2
    exact ⟨_, _, x, rfl, rfl, h1, rfl, rfl⟩
  · cases e
theorem rk_I {C0 : Int → Int → Prop} {g : Int → Int → V} {f : Int → Int → Option PyData} (h : ∀ i j x, f i j = some x → C0 i j ∧ ∀ I, Dq K I (g i j) x) : R2K K (rI C0 g) (gI f) := fun I C μ H w x y a b ra rb q C' e Q k => by
  obtain ⟨i, j, z, rfl, rfl, h1, rfl, rfl⟩ := gI_of e
  obtain ⟨c, hd⟩ := h i j z h1
  exact ⟨i, j, rv_int ra, rv_int rb, c, k I μ H _ Le.refl w (hd I)⟩
theorem rk_I0 {g : Int → Int → V} {f : Int → Int → Option PyData} (h : ∀ i j x, f i j = some x → ∀ I, Dq K I (g i j) x) : R2K K (rI0 g) (gI f) := fun I C μ H w x y a b ra rb q C' e Q k => by
  obtain ⟨i, j, z, rfl, rfl, h1, rfl, rfl⟩ := gI_of e
  exact ⟨i, j, rv_int ra, rv_int rb, k I μ H _ Le.refl w (h i j z h1 I)⟩
theorem rk_sub : R2K K (rI0 fun i j => .int (i - j)) gSub := rk_I0 fun i j x e I => by cases e; exact .int _
theorem rk_lt : R2K K (rI0 fun i j => .bl (decide (i < j))) gLt := rk_I0 fun i j x e I => by cases e; exact .bl _
theorem rk_le : R2K K (rI0 fun i j => .bl (decide (i ≤ j))) gLe := rk_I0 fun i j x e I => by cases e; exact .bl _
theorem rk_gt : R2K K (rI0 fun i j => .bl (decide (j < i))) gGt := rk_I0 fun i j x e I => by cases e; exact .bl _
theorem rk_mod : R2K K (rI (fun _ j => 0 < j) fun i j => .int (i % j)) gMod := rk_I fun i j x e => by
  split at e
  · cases e
    rename_i h
    exact ⟨h, fun I => .int _⟩
  · cases e
theorem rk_div : R2K K (rI CDivW fun i j => .int (i / j)) gDiv := rk_I fun i j x e => by
  split at e
  · cases e
    rename_i h
    exact ⟨wide_div (b := 64) h.1 (by have := h.2; omega) (by decide) (by decide), fun I => .int _⟩
  · cases e
theorem rk_pow : R2K K (rI CPow fun i j => .int (i ^ j.toNat)) gPow := rk_I fun i j x e => by
  split at e
  · cases e
    rename_i h
    exact ⟨⟨h.1, by omega, h.2.2⟩, fun I => .int _⟩
  · cases e
abbrev rAddAll (K : PySem.W.Frag) : R2 := fun x y H Q => (fun x y H Q => rI0 (fun i j => .int (i + j)) x y H Q ∨ rCatN K x y H Q) x y H Q ∨ rCat x y H Q
theorem op_addAll {X : Cx} : OpR X (binaryOp .Add) (rAddAll X.K) := (op_add.or op_catN).or op_cat
theorem rk_add : R2K K (rAddAll K) gAdd := fun I C μ H w x y a b ra rb q C' e Q k => by
  unfold gAdd at e
  split at e
  · cases e
    exact .inl (.inl ⟨_, _, rv_int ra, rv_int rb, k I μ H _ Le.refl w (Dq.int _)⟩)
  · rename_i xs ys
    split at e
    · rename_i hl
      cases e
      have h1 : Dq K I x (.tuple xs) := ra
      have h2 : Dq K I y (.tuple ys) := rb
      cases h1 with
      | tup g1 t1 =>
        cases h2 with
        | tup g2 t2 =>
          rename_i a1 vs1 a2 vs2
          have l1 := t1.len
          have l2 := t2.len
          refine .inl (.inr ⟨a1, a2, vs1, vs2, rfl, rfl, ex_t w.ex g1.t, ex_t w.ex g2.t, by rw [l1, l2]; exact le_line hl, fun z => ?_, fun _ z => ?_, fun _ _ p ob hob hp => ?_⟩)
          · subst z
            cases t1
            exact k I μ H _ Le.refl w (Dq.tup g2 t2)
          · subst z
            cases t2
            rw [List.append_nil] at k
            exact k I μ H _ Le.refl w (Dq.tup g1 t1)
          · obtain ⟨w3, l3, h3⟩ := w.newD (o := .frz ob (.tup (vs1 ++ vs2))) hp
            exact k _ _ _ _ l3 w3 (Dq.tup (SqN.of hob h3) ((t1.app t2).up l3.ex))
    · cases e
  · rename_i n m
    obtain ⟨xs, e1, e⟩ := Option.bind_eq_some_iff.mp e
    obtain ⟨ys, e2, e⟩ := Option.bind_eq_some_iff.mp e
    split at e
    · rename_i hl
      cases e
      obtain ⟨a1, vs1, rfl, _, h3, h4⟩ := rdC_ok w ra (cellAt_of e1)
      obtain ⟨a2, vs2, rfl, _, k3, k4⟩ := rdC_ok w rb (cellAt_of e2)
      refine .inr ⟨a1, a2, vs1, vs2, rfl, rfl, h3, k3, by rw [h4.len, k4.len]; exact le_line hl, fun p hp => ?_⟩
      obtain ⟨w3, l3, g3⟩ := w.newC hp (h4.app k4)
      exact k _ _ _ _ l3 w3 ⟨p, g3, rfl⟩
    · cases e
  · cases e
theorem DqAll.rep {I : Hp} {vs : List V} {ds : List PyData} (h : DqAll K I vs ds) : ∀ n : Nat, DqAll K I (List.replicate n vs).flatten (List.replicate n ds).flatten
  | 0 => .nil
  | n + 1 => by
    rw [List.replicate_succ, List.replicate_succ, List.flatten_cons, List.flatten_cons]
    exact h.app (DqAll.rep h n)
abbrev rMulAll (K : PySem.W.Frag) : R2 := fun x y H Q => (fun x y H Q => rI CMulW (fun i j => .int (i * j)) x y H Q ∨ rRepN K x y H Q) x y H Q ∨ rRep x y H Q ∨ rI CMul (fun i j => .int (i * j)) x y H Q
theorem op_mulAll {X : Cx} : OpR X (binaryOp .Mult) (rMulAll X.K) := (op_mulW.or op_repN).or (op_rep.or op_mul)
theorem rk_mul : R2K K (rMulAll K) gMul := fun I C μ H w x y a b ra rb q C' e Q k => by
  unfold gMul at e
  split at e
  · rename_i i j
    split at e
    · rename_i hl
      cases e
      have hx := rv_int ra
      have hy := rv_int rb
      have hc : CMul i j := by
        unfold CMul
        rcases hl with h | h
        · exact .inl ⟨by omega, by omega⟩
        · exact .inr ⟨by omega, by omega⟩
      exact .inr (.inr ⟨_, _, hx, hy, hc, k I μ H _ Le.refl w (Dq.int _)⟩)
    · cases e
  · rename_i xs kk
    split at e
    · rename_i hl
      cases e
      have h1 : Dq K I x (.tuple xs) := ra
      cases h1 with
      | tup g1 t1 =>
        rename_i a1 vs1
        have l1 := t1.len
        refine .inl (.inr ⟨a1, kk, vs1, rfl, rv_int rb, ex_t w.ex g1.t, fun z => ?_, hl.2.1, by omega, by omega, fun p ob hob hp => ?_⟩)
        · subst z
          cases t1
          exact hl.1 rfl
        · obtain ⟨w3, l3, h3⟩ := w.newD (o := .frz ob (.tup (List.replicate kk.toNat vs1).flatten)) hp
          exact k _ _ _ _ l3 w3 (Dq.tup (SqN.of hob h3) ((t1.rep _).up l3.ex))
    · cases e
  · rename_i n kk
    obtain ⟨xs, e1, e⟩ := Option.bind_eq_some_iff.mp e
    split at e
    · rename_i hl
      cases e
      obtain ⟨a1, vs1, rfl, _, h3, h4⟩ := rdC_ok w ra (cellAt_of e1)
      refine .inr (.inl ⟨a1, kk, vs1, rfl, rv_int rb, h3, by omega, by omega, ?_, fun p hp => ?_⟩)
      · rw [h4.len]
        have : xs.length * kk.toNat ≤ 100 * 100 := Nat.mul_le_mul hl.2.2 (by omega)
        exact le_line (by omega)
      · obtain ⟨w3, l3, g3⟩ := w.newC hp (h4.rep kk.toNat)
        exact k _ _ _ _ l3 w3 ⟨p, g3, rfl⟩
    · cases e
  · cases e
abbrev rIsntAll : R2 := fun x y H Q => (y = .non ∧ Q (.bl (!decide (x = .non))) H) ∨ rNotB x y H Q
theorem op_isntAll {X : Cx} : OpR X (compareOp .IsNot) rIsntAll := op_notN.or op_notBl
theorem dq_non {I : Hp} {v : V} {x : PyData} (h : Dq K I v x) (hx : x ≠ .none) : v ≠ .non := by
  rintro rfl
  cases h
  exact hx rfl
theorem rk_isnt : R2K K rIsntAll gIsnt := fun I C μ H w x y a b ra rb q C' e Q k => by
  unfold gIsnt at e
  split at e
  · rename_i d1 d2
    obtain ⟨kk, e1, e⟩ := Option.map_eq_some_iff.mp e
    cases e
    unfold isV at e1
    split at e1
    · cases e1
      exact .inl ⟨rv_non rb, by rw [rv_non ra]; exact k I μ H _ Le.refl w (Dq.bl _)⟩
    · cases e1
      exact .inr ⟨_, _, rv_bool ra, rv_bool rb, k I μ H _ Le.refl w (Dq.bl _)⟩
    · rename_i hn
      cases e1
      refine .inl ⟨rv_non rb, ?_⟩
      rw [decide_eq_false (dq_non ra fun z => hn z)]
      exact k I μ H _ Le.refl w (Dq.bl _)
    · cases e1
  · cases e
    obtain ⟨a, h1, rfl⟩ := ra
    exact .inl ⟨rv_non rb, k I μ H _ Le.refl w (Dq.bl _)⟩
  · cases e
theorem DqAll.atI {I : Hp} {vs : List V} {ds : List PyData} (h : DqAll K I vs ds) {i : Int} {x : PyData} (e : L2.atI ds i = some x) : ∃ v, L2.atI vs i = some v ∧ Dq K I v x := by
  unfold L2.atI at e ⊢
  rw [← h.len] at e
  obtain ⟨j, e1, e2⟩ := Option.bind_eq_some_iff.mp e
  obtain ⟨v, g1, g2⟩ := h.get e2
  exact ⟨v, by rw [e1]; exact g1, g2⟩
theorem rk_ix : R2K K (rIx K) gIx := fun I C μ H w x y a b ra rb q C' e Q k => by
  unfold gIx at e
  split at e
  · rename_i i
    obtain ⟨xs, e1, e⟩ := Option.bind_eq_some_iff.mp e
    obtain ⟨z, e2, e⟩ := Option.map_eq_some_iff.mp e
    cases e
    obtain ⟨a1, vs, rfl, h2, h3⟩ := rdS_ok w ra e1
    obtain ⟨v, g1, g2⟩ := h3.atI e2
    rcases h2 with h2 | h2
    · exact .inl ⟨a1, vs, i, v, rfl, rv_int rb, h2, g1, k I μ H _ Le.refl w g2⟩
    · exact .inr (.inl ⟨a1, vs, i, v, rfl, rv_int rb, h2, g1, k I μ H _ Le.refl w g2⟩)
  · cases e
theorem DqAll.cut {I : Hp} {vs : List V} {ds : List PyData} (h : DqAll K I vs ds) (lo hi : Option Int) : DqAll K I (cutV vs lo hi) (cutD ds lo hi) := by
  unfold cutV cutD
  rw [h.len]
  exact (h.drop _).take _
def SlK (K : PySem.W.Frag) (r : V → Option Int → Option Int → Hp → VK → Prop) (g : SV → Option Int → Option Int → CS → Option (SV × CS)) : Prop := ∀ I C μ H, WC K I C μ H → ∀ x a lo hi, RV K I μ x a → ∀ q C', g a lo hi C = some (q, C') → ∀ Q, Thn K I μ C' q Q → r x lo hi H Q
abbrev rCutAll (K : PySem.W.Frag) : V → Option Int → Option Int → Hp → VK → Prop := fun x lo hi H Q => rCutN K x lo hi H Q ∨ rSlL K x lo hi H Q
theorem sl_all {X : Cx} : SlR X (rCutAll X.K) := sl_cutN.or sl_list
theorem cut_whole {α : Type} {xs : List α} {lo hi : Option Int} (h : HT.sIx xs.length 0 lo = 0 ∧ HT.sIx xs.length xs.length hi = xs.length) : (xs.drop (HT.sIx xs.length 0 lo)).take (HT.sIx xs.length xs.length hi - HT.sIx xs.length 0 lo) = xs := by
  rw [h.1, h.2]
  simp
theorem slk_all : SlK K (rCutAll K) gCut := fun I C μ H w x a lo hi ra q C' e Q k => by
  unfold gCut at e
  split at e
  · cases e
    rename_i xs
    have h1 : Dq K I x (.tuple xs) := ra
    cases h1 with
    | tup g1 t1 =>
      rename_i a1 vs1
      refine .inl ⟨a1, vs1, rfl, ex_t w.ex g1.t, fun z => ?_, fun _ p ob hob hp => ?_⟩
      · rw [t1.len] at z
        have : cutD xs lo hi = xs := cut_whole z
        rw [this] at k
        exact k I μ H _ Le.refl w (Dq.tup g1 t1)
      · obtain ⟨w3, l3, h3⟩ := w.newD (o := .frz ob (.tup (cutV vs1 lo hi))) hp
        exact k _ _ _ _ l3 w3 (Dq.tup (SqN.of hob h3) ((t1.cut lo hi).up l3.ex))
  · obtain ⟨xs, e1, e⟩ := Option.map_eq_some_iff.mp e
    cases e
    obtain ⟨a1, vs, rfl, h2, h3⟩ := rdL_ok w ra e1
    refine .inr ⟨a1, vs, rfl, h2, fun p hp => ?_⟩
    obtain ⟨w3, l3, g3⟩ := w.newC hp (h3.cut lo hi)
    exact k _ _ _ _ l3 w3 ⟨p, g3, rfl⟩
/-- the bounds of a slice -/
abbrev DOp := Ev → CS → Option (Option Int × CS)
def dNo : DOp := fun _ C => some (none, C)
def dPart (f : DE) : DOp := fun ε C => (f ε C).bind fun (a, C1) => match a with
  | .d (.int i) => some (some i, C1)
  | _ => none
def SO (K : PySem.W.Frag) (to : TO) (f : DOp) : Prop := ∀ (σ : L2.St) (H : Hp) (ε : Ev) (C : CS) (μ : List Addr) (I : Hp), WC K I C μ H → WS K I μ σ ε → ∀ o C', f ε C = some (o, C') → ∀ Q : Option Int → Hp → Prop, (∀ J ν H', Le I μ J ν → WC K J C' ν H' → Q o H') → to σ H Q
theorem so_no : SO K tNoPart dNo := fun σ H ε C μ I w s o C' e Q q => by
  cases e
  exact q I μ H Le.refl w
theorem so_part {te : TE} {f : DE} (h : SE K te f) : SO K (tPart te) (dPart f) := fun σ H ε C μ I w s o C' e Q q => by
  obtain ⟨⟨a, C1⟩, e1, e⟩ := Option.bind_eq_some_iff.mp e
  refine h σ H ε C μ I w s a C1 e1 _ fun J ν H1 x l1 w1 r1 => ?_
  simp only at e
  split at e
  · cases e
    exact ⟨_, rv_int r1, q J ν H1 l1 w1⟩
  · cases e
def dCut (fa : DE) (fl fh : DOp) : DE := fun ε C => (fa ε C).bind fun (a, C1) => (fl ε C1).bind fun (l, C2) => (fh ε C2).bind fun (h, C3) => gCut a l h C3
theorem se_cut {te : TE} {tl th : TO} {fa : DE} {fl fh : DOp} (h : SE K te fa) (hl : SO K tl fl) (hh : SO K th fh) : SE K (tSl (rCutAll K) te tl th) (dCut fa fl fh) := fun σ H ε C μ I w s r C' e Q q => by
  obtain ⟨⟨a, C1⟩, e1, e⟩ := Option.bind_eq_some_iff.mp e
  obtain ⟨⟨b, C2⟩, e2, e⟩ := Option.bind_eq_some_iff.mp e
  obtain ⟨⟨c, C3⟩, e3, e⟩ := Option.bind_eq_some_iff.mp e
  refine h σ H ε C μ I w s a C1 e1 _ fun J ν H1 x l1 w1 r1 => ?_
  refine hl σ H1 ε C1 ν J w1 (s.up l1) b C2 e2 _ fun L ξ H2 l2 w2 => ?_
  refine hh σ H2 ε C2 ξ L w2 (s.up (l1.trans l2)) c C3 e3 _ fun M π H3 l3 w3 => ?_
  exact slk_all M C3 π H3 w3 x a b c (r1.up (l2.trans l3)) r C' e Q (q.up ((l1.trans l2).trans l3))
end
end Dn
set_option Elab.async false
set_option linter.all false
set_option maxRecDepth 100000
namespace Dn
open PySem PySem.Spec PyProof.Rows L2
open Evl (Ex Ex.refl Ex.trans Ex.new fresh_back ex_l ex_t ex_rd)
/-! ### statements -/
def dNext : DS := fun ε C => some (.nx ε C)
def dNever : DS := fun _ _ => none
def dSeq (f g : DS) : DS := fun ε C => (f ε C).bind fun o => match o with
  | .nx ε1 C1 => g ε1 C1
  | o => some o
def dRet (f : DE) : DS := fun ε C => (f ε C).map fun (r, C1) => .rt r C1
def dRetN : DS := fun _ C => some (.rt (.d .none) C)
def dDrop (f : DE) : DS := fun ε C => (f ε C).map fun (_, C1) => .nx ε C1
def dIfS (t : DT) (f g : DS) : DS := fun ε C => (t ε C).bind fun (b, C1) => if b = true then f ε C1 else g ε C1
abbrev DG := SV → Ev → CS → Option (Ev × CS)
abbrev DGs := List PyData → Ev → CS → Option (Ev × CS)
def dName (i : Nat) : DG := fun r ε C => some (ε.set i (some r), C)
def dgNil : DGs := fun xs ε C => if xs = [] then some (ε, C) else none
def dgCons (g : DG) (u : DGs) : DGs := fun xs ε C => match xs with
  | [] => none
  | x :: r => (g (.d x) ε C).bind fun (ε1, C1) => u r ε1 C1
def dgTup (n : Nat) (g : DGs) : DG := fun r ε C => match r with
  | .d (.tuple xs) => if xs.length = n then g xs ε C else none
  | _ => none
def dgSub (fo fi : DE) : DG := fun r ε C => (fo ε C).bind fun (o, C1) => (fi ε C1).bind fun (i, C2) => (frz r C2).bind fun (x, C3) => match o, i with
  | .c n, .d (.int k) => (cellAt C3 n).bind fun xs => (ixN xs.length k).map fun j => (ε, C3.set n (some (xs.set j x)))
  | _, _ => none
def dAsg (f : DE) (g : DG) : DS := fun ε C => (f ε C).bind fun (r, C1) => (g r ε C1).map fun (ε1, C2) => .nx ε1 C2
/-- xs.append(x), xs.insert(i, x) -/
def dApp (fo fa : DE) : DE := fun ε C => (fo ε C).bind fun (o, C1) => match o with
  | .c n => (cellAt C1 n).bind fun _ => (fa ε C1).bind fun (r, C2) => (frz r C2).bind fun (x, C3) => (cellAt C3 n).bind fun xs => if xs.length < 10000 then some (.d .none, C3.set n (some (xs ++ [x]))) else none
  | _ => none
def SG (K : PySem.W.Frag) (t : TG) (g : DG) : Prop := ∀ (σ : L2.St) (H : Hp) (ε : Ev) (C : CS) (μ : List Addr) (I : Hp), WC K I C μ H → WS K I μ σ ε → ∀ v r, RV K I μ v r → ∀ ε' C', g r ε C = some (ε', C') → ∀ Q : L2.St → Hp → Prop, (∀ J ν H' σ', Le I μ J ν → WC K J C' ν H' → WS K J ν σ' ε' → Q σ' H') → t v σ H Q
def SGs (K : PySem.W.Frag) (t : TGs) (g : DGs) : Prop := ∀ (σ : L2.St) (H : Hp) (ε : Ev) (C : CS) (μ : List Addr) (I : Hp), WC K I C μ H → WS K I μ σ ε → ∀ vs xs, DqAll K I vs xs → ∀ ε' C', g xs ε C = some (ε', C') → ∀ Q : L2.St → Hp → Prop, (∀ J ν H' σ', Le I μ J ν → WC K J C' ν H' → WS K J ν σ' ε' → Q σ' H') → t vs σ H Q
section
variable {K : PySem.W.Frag} {te ta tb to ti : TE} {fa fb fo fi : DE} {t u : TS} {f g : DS}
theorem ss_next : SS K tNext dNext := fun σ H ε C μ I w s o e D q => by
  cases e
  exact q I μ H σ Le.refl w s
theorem ss_never : SS K tNever dNever := fun σ H ε C μ I w s o e D q => by cases e
theorem ss_seq (h : SS K t f) (k : SS K u g) : SS K (tSeq t u) (dSeq f g) := fun σ H ε C μ I w s o e D q => by
  obtain ⟨p, e1, e⟩ := Option.bind_eq_some_iff.mp e
  refine h σ H ε C μ I w s p e1 { D with nx := u D } ?_
  cases p with
  | nx ε1 C1 => exact fun J ν H1 σ1 l1 w1 s1 => k σ1 H1 ε1 C1 ν J w1 s1 o e D (q.up l1)
  | bk ε1 C1 =>
    cases e
    exact q
  | ct ε1 C1 =>
    cases e
    exact q
  | rt r C1 =>
    cases e
    exact q
theorem ss_ret (h : SE K te fa) : SS K (tRet te) (dRet fa) := fun σ H ε C μ I w s o e D q => by
  obtain ⟨⟨r, C1⟩, e1, e⟩ := Option.map_eq_some_iff.mp e
  cases e
  exact h σ H ε C μ I w s r C1 e1 _ q
theorem ss_drop (h : SE K te fa) : SS K (tDrop te) (dDrop fa) := fun σ H ε C μ I w s o e D q => by
  obtain ⟨⟨r, C1⟩, e1, e⟩ := Option.map_eq_some_iff.mp e
  cases e
  exact h σ H ε C μ I w s r C1 e1 _ fun J ν H1 v l1 w1 _ => q J ν H1 σ l1 w1 (s.up l1)
theorem ss_if {c : TT} {d : DT} (hc : ST K c d) (h : SS K t f) (k : SS K u g) : SS K (tIfS c t u) (dIfS d f g) := fun σ H ε C μ I w s o e D q => by
  obtain ⟨⟨b, C1⟩, e1, e⟩ := Option.bind_eq_some_iff.mp e
  refine hc σ H ε C μ I w s b C1 e1 _ fun J ν H1 l1 w1 => ?_
  cases b with
  | true => exact h σ H1 ε C1 ν J w1 (s.up l1) o e D (q.up l1)
  | false => exact k σ H1 ε C1 ν J w1 (s.up l1) o e D (q.up l1)
theorem sg_name {i : Nat} : SG K (L2.gName i) (dName i) := fun σ H ε C μ I w s v r h ε' C' e Q q => by
  cases e
  exact q I μ H _ Le.refl w (s.set h i)
theorem sgs_nil : SGs K L2.gNil dgNil := fun σ H ε C μ I w s vs xs h ε' C' e Q q => by
  unfold dgNil at e
  split at e
  · rename_i hx
    subst hx
    cases e
    cases h
    exact ⟨rfl, q I μ H _ Le.refl w s⟩
  · cases e
theorem sgs_cons {t : TG} {u : TGs} {g : DG} {k : DGs} (h : SG K t g) (hk : SGs K u k) : SGs K (L2.gCons t u) (dgCons g k) := fun σ H ε C μ I w s vs xs d ε' C' e Q q => by
  cases d with
  | nil => cases e
  | cons d1 d2 =>
    obtain ⟨⟨ε1, C1⟩, e1, e⟩ := Option.bind_eq_some_iff.mp e
    refine ⟨_, _, rfl, ?_⟩
    refine h σ H ε C μ I w s _ (.d _) d1 ε1 C1 e1 _ fun J ν H1 σ1 l1 w1 s1 => ?_
    exact hk σ1 H1 ε1 C1 ν J w1 s1 _ _ (d2.up l1.ex) ε' C' e Q fun L ξ H2 σ2 l2 => q L ξ H2 σ2 (l1.trans l2)
theorem sg_tup {n : Nat} {u : TGs} {k : DGs} (h : SGs K u k) : SG K (L2.gTup K n u) (dgTup n k) := fun σ H ε C μ I w s v r d ε' C' e Q q => by
  unfold dgTup at e
  split at e
  · split at e
    · rename_i xs hl
      have d : Dq K I v (.tuple xs) := d
      cases d with
      | tup g1 t1 => exact ⟨_, _, rfl, ex_t w.ex g1.t, by rw [t1.len]; exact hl, h σ H ε C μ I w s _ _ t1 ε' C' e Q q⟩
    · cases e
  · cases e
theorem sg_sub (ho : SE K to fo) (hi : SE K ti fi) : SG K (L2.gSub to ti rSetL) (dgSub fo fi) := fun σ H ε C μ I w s v r d ε' C' e Q q => by
  obtain ⟨⟨o, C1⟩, e1, e⟩ := Option.bind_eq_some_iff.mp e
  obtain ⟨⟨i, C2⟩, e2, e⟩ := Option.bind_eq_some_iff.mp e
  obtain ⟨⟨x, C3⟩, e3, e⟩ := Option.bind_eq_some_iff.mp e
  refine ho σ H ε C μ I w s o C1 e1 _ fun J ν H1 vo l1 w1 r1 => ?_
  refine hi σ H1 ε C1 ν J w1 (s.up l1) i C2 e2 _ fun L ξ H2 vi l2 w2 r2 => ?_
  obtain ⟨M, l3, w3, d3⟩ := frz_ok w2 (d.up (l1.trans l2)) e3
  simp only at e
  split at e
  · obtain ⟨xs, e4, e⟩ := Option.bind_eq_some_iff.mp e
    obtain ⟨j, e5, e⟩ := Option.map_eq_some_iff.mp e
    cases e
    obtain ⟨a, vs, rfl, g2, g3, g4⟩ := rdC_ok w3 (r1.up (l2.trans l3)) (cellAt_of e4)
    refine ⟨a, vs, _, j, rfl, rv_int r2, g3, by rw [g4.len]; exact e5, ?_⟩
    exact q _ _ _ _ ((l1.trans l2).trans l3) (w3.put (cellAt_of e4) g2 (g4.set j d3)) (s.up ((l1.trans l2).trans l3))
  · cases e
theorem ss_asg {t : TG} {g : DG} (h : SE K te fa) (k : SG K t g) : SS K (tAsg te t) (dAsg fa g) := fun σ H ε C μ I w s o e D q => by
  obtain ⟨⟨r, C1⟩, e1, e⟩ := Option.bind_eq_some_iff.mp e
  obtain ⟨⟨ε1, C2⟩, e2, e⟩ := Option.map_eq_some_iff.mp e
  cases e
  refine h σ H ε C μ I w s r C1 e1 _ fun J ν H1 v l1 w1 r1 => ?_
  exact k σ H1 ε C1 ν J w1 (s.up l1) v r r1 ε1 C2 e2 _ fun L ξ H2 σ2 l2 => q L ξ H2 σ2 (l1.trans l2)
theorem se_app (ho : SE K to fo) (ha : SE K ta fa) : SE K (tBM K "list" rAppend to (tCons ta tNil)) (dApp fo fa) := fun σ H ε C μ I w s r C' e Q q => by
  obtain ⟨⟨o, C1⟩, e1, e⟩ := Option.bind_eq_some_iff.mp e
  simp only at e
  refine ho σ H ε C μ I w s o C1 e1 _ fun J ν H1 vo l1 w1 r1 => ?_
  split at e
  · rename_i n e1
    obtain ⟨zs, e0, e⟩ := Option.bind_eq_some_iff.mp e
    obtain ⟨⟨y, C2⟩, e2, e⟩ := Option.bind_eq_some_iff.mp e
    obtain ⟨⟨x, C3⟩, e3, e⟩ := Option.bind_eq_some_iff.mp e
    obtain ⟨xs, e4, e⟩ := Option.bind_eq_some_iff.mp e
    split at e
    · rename_i hl
      cases e
      obtain ⟨a, us, rfl, _, k3, _⟩ := rdC_ok w1 r1 (cellAt_of e0)
      refine ⟨.inl ⟨rfl, us, .inl (.inl k3)⟩, ?_⟩
      refine ha σ H1 ε C1 ν J w1 (s.up l1) y C2 e2 _ fun L ξ H2 vi l2 w2 r2 => ?_
      obtain ⟨M, l3, w3, d3⟩ := frz_ok w2 r2 e3
      obtain ⟨b, vs, hb, g2, g3, g4⟩ := rdC_ok w3 (RV.up (l2.trans l3) r1) (cellAt_of e4)
      cases hb
      refine ⟨a, vs, vi, rfl, rfl, g3, by rw [g4.len]; exact Nat.lt_of_lt_of_le hl (by decide), ?_⟩
      exact q _ _ _ _ ((l1.trans l2).trans l3) (w3.put (cellAt_of e4) g2 (g4.app (.cons d3 .nil))) Dq.non
    · cases e
  · cases e
end
/-! ### loops -/
structure ITD where
  items : List PyData
  pins : List (Nat × List PyData)
def pinned (ps : List (Nat × List PyData)) (C : CS) : Prop := ∀ p ∈ ps, cellAt C p.1 = some p.2
def ItOk (K : PySem.W.Frag) (I : Hp) (μ : List Addr) (it : ITD) (jt : It) : Prop := ∀ L ξ C H, Le I μ L ξ → WC K L C ξ H → pinned it.pins C →
  (∀ (i : Nat) x, it.items[i]? = some x → jt.go i H ∧ ∀ v H', jt.yld i H v H' → ∃ M, Le L ξ M ξ ∧ WC K M C ξ H' ∧ Dq K M v x) ∧ jt.stop it.items.length H
theorem ItOk.up {K : PySem.W.Frag} {I J : Hp} {μ ν : List Addr} {it : ITD} {jt : It} (l : Le I μ J ν) (h : ItOk K I μ it jt) : ItOk K J ν it jt := fun L ξ C H l2 => h L ξ C H (l.trans l2)
abbrev DI := Ev → CS → Option (ITD × CS)
def SI (K : PySem.W.Frag) (wi : TI) (fi : DI) : Prop := ∀ (σ : L2.St) (H : Hp) (ε : Ev) (C : CS) (μ : List Addr) (I : Hp), WC K I C μ H → WS K I μ σ ε → ∀ it C', fi ε C = some (it, C') → ∀ R : It → Hp → Prop, (∀ J ν H' jt, Le I μ J ν → WC K J C' ν H' → ItOk K J ν it jt → R jt H') → wi σ H R
/-- over a list or a tuple -/
def pinOf (r : SV) (xs : List PyData) : List (Nat × List PyData) := match r with
  | .c n => [(n, xs)]
  | _ => []
def diSeq (f : DE) : DI := fun ε C => (f ε C).bind fun (r, C1) => (rdS r C1).map fun xs => (⟨xs, pinOf r xs⟩, C1)
def iAny (K : PySem.W.Frag) (tl : TE) : TI := fun σ H R => tl σ H fun x H1 => ∃ a, x = .ref a ∧ (((∃ xs, SqL K H1 a xs) ∧ R (Itl K a) H1) ∨ ((∃ xs, SqT K H1 a xs) ∧ R (Itt K a) H1))
theorem pi_any {X : Cx} {tg l : Expr} {tl : TE} (hl : PE X l tl) : PI X tg l (iAny X.K tl) := by
  refine ⟨fun pins s σ H R I h => thn (hl.run pins s σ H _ I h) ?_⟩
  rintro v s1 ⟨x, H1, I1, r1, a, rfl, q⟩
  cases r1
  have k1 : ∀ {u : Obj}, ∀ b o, s1.heap.get? b = some o → (s1.heap.push u).get? b = some o := fun b o e => Heap.get?_push_of_some _ e
  have f1 : ∀ {H2 : Hp}, H2 = H1 → ∀ b ∈ [s1.heap.objs.size], FpOk X pins H2 b := by
    rintro H2 rfl b hb
    rw [List.mem_singleton.mp hb]
    exact I1.fpOk (Nat.le_refl _) (I1.hok.fresh (Nat.le_refl _))
  rcases q with ⟨⟨xs, hq⟩, q⟩ | ⟨⟨xs, hq⟩, q⟩
  · obtain ⟨its, rv, p, hz⟩ := I1.list hq
    refine wpAny_pyIter_list p.isList ⟨_, _, _, _, H1, rfl, I1.kept (t' := s1.toks) k1, turn_list a _, ?_, f1 rfl, q⟩
    exact ⟨_, Heap.get?_push_size _ rfl, rfl, rfl⟩
  · obtain ⟨its, rv, p, hz⟩ := I1.tuple hq
    refine wpAny_pyIter_tuple p ⟨_, _, _, _, H1, rfl, I1.kept (t' := s1.toks) k1, turn_tuple a _, ?_, f1 rfl, q⟩
    exact ⟨_, Heap.get?_push_size _ rfl, rfl, rfl⟩
section
variable {K : PySem.W.Frag}
theorem si_seq {tl : TE} {f : DE} (h : SE K tl f) : SI K (iAny K tl) (diSeq f) := fun σ H ε C μ I w s it C' e R q => by
  obtain ⟨⟨r, C1⟩, e1, e⟩ := Option.bind_eq_some_iff.mp e
  obtain ⟨xs, e2, e⟩ := Option.map_eq_some_iff.mp e
  cases e
  refine h σ H ε C μ I w s r C' e1 _ fun J ν H1 v l1 w1 r1 => ?_
  obtain ⟨a, vs, rfl, h2, h3⟩ := rdS_ok w1 r1 e2
  -- what is read at each later turn
  have again : ∀ L ξ C2 H2, Le J ν L ξ → WC K L C2 ξ H2 → pinned (pinOf r xs) C2 → (∃ us, SqL K H2 a us ∧ DqAll K L us xs) ∨ (∃ us, SqT K H2 a us ∧ DqAll K L us xs) := fun L ξ C2 H2 l w2 p2 => by
    cases r with
    | d x =>
      have rr : Dq K J (.ref a) x := r1
      cases rr with
      | lst hh t =>
        cases e2
        exact .inl ⟨_, ex_l (l.ex.trans w2.ex) hh, t.up l.ex⟩
      | tup hh t =>
        cases e2
        exact .inr ⟨_, ex_t (l.ex.trans w2.ex) hh.t, t.up l.ex⟩
      | dct _ _ _ => cases e2
    | c n =>
      have e3 := p2 (n, xs) (List.mem_singleton.mpr rfl)
      obtain ⟨b, us, hb, _, g3, g4⟩ := rdC_ok w2 (RV.up l r1) (cellAt_of e3)
      cases hb
      exact .inl ⟨us, .inl (.inl g3), g4⟩
    | g i j => cases e2
    | b n k => cases e2
  have isL : (∃ us, SqL K H1 a us) ∧ (∀ L ξ C2 H2, Le J ν L ξ → WC K L C2 ξ H2 → pinned (pinOf r xs) C2 → ∃ us, SqL K H2 a us ∧ DqAll K L us xs) ∨ (∃ us, SqT K H1 a us) ∧ (∀ L ξ C2 H2, Le J ν L ξ → WC K L C2 ξ H2 → pinned (pinOf r xs) C2 → ∃ us, SqT K H2 a us ∧ DqAll K L us xs) := by
    cases r with
    | d x =>
      have rr : Dq K J (.ref a) x := r1
      cases rr with
      | lst hh t =>
        cases e2
        exact .inl ⟨⟨_, ex_l w1.ex hh⟩, fun L ξ C2 H2 l w2 _ => ⟨_, ex_l (l.ex.trans w2.ex) hh, t.up l.ex⟩⟩
      | tup hh t =>
        cases e2
        exact .inr ⟨⟨_, ex_t w1.ex hh.t⟩, fun L ξ C2 H2 l w2 _ => ⟨_, ex_t (l.ex.trans w2.ex) hh.t, t.up l.ex⟩⟩
      | dct _ _ _ => cases e2
    | c n =>
      refine .inl ⟨?_, fun L ξ C2 H2 l w2 p2 => ?_⟩
      · obtain ⟨b, us, hb, _, g3, g4⟩ := rdC_ok w1 r1 (cellAt_of e2)
        cases hb
        exact ⟨us, .inl (.inl g3)⟩
      · have e3 := p2 (n, xs) (List.mem_singleton.mpr rfl)
        obtain ⟨b, us, hb, _, g3, g4⟩ := rdC_ok w2 (RV.up l r1) (cellAt_of e3)
        cases hb
        exact ⟨us, .inl (.inl g3), g4⟩
    | g i j => cases e2
    | b n k => cases e2
  refine ⟨a, rfl, ?_⟩
  rcases isL with ⟨h4, h5⟩ | ⟨h4, h5⟩
  · refine .inl ⟨h4, q J ν H1 _ l1 w1 fun L ξ C2 H2 l w2 p2 => ?_⟩
    obtain ⟨us, g1, g2⟩ := h5 L ξ C2 H2 l w2 p2
    refine ⟨fun i x hx => ?_, us, g1, Nat.le_of_eq g2.len⟩
    obtain ⟨v, k1, k2⟩ := g2.get hx
    refine ⟨⟨us, v, g1, k1⟩, fun v' H' y => ?_⟩
    obtain ⟨rfl, y⟩ := y
    have := Option.some.inj (k1.symm.trans (y us g1))
    subst this
    exact ⟨L, Le.refl, w2, k2⟩
  · refine .inr ⟨h4, q J ν H1 _ l1 w1 fun L ξ C2 H2 l w2 p2 => ?_⟩
    obtain ⟨us, g1, g2⟩ := h5 L ξ C2 H2 l w2 p2
    refine ⟨fun i x hx => ?_, us, g1, Nat.le_of_eq g2.len⟩
    obtain ⟨v, k1, k2⟩ := g2.get hx
    refine ⟨⟨us, v, g1, k1⟩, fun v' H' y => ?_⟩
    obtain ⟨rfl, y⟩ := y
    have := Option.some.inj (k1.symm.trans (y us g1))
    subst this
    exact ⟨L, Le.refl, w2, k2⟩
def rng (lo : Int) (n : Nat) : List PyData := (List.range n).map fun i => .int (lo + (i : Nat))
def diRng1 (fa : DA) : DI := fun ε C => (fa ε C).bind fun (rs, C1) => match rs with
  | [.d (.int j)] => if -(2 ^ 62) ≤ j ∧ j < 2 ^ 62 then some (⟨rng 0 j.toNat, []⟩, C1) else none
  | _ => none
theorem it_rng {I : Hp} {μ : List Addr} {lo : Int} {n : Nat} : ItOk K I μ ⟨rng lo n, []⟩ (Itr lo n) := fun L ξ C H l w _ => by
  refine ⟨fun i x hx => ?_, by show n ≤ (rng lo n).length; simp [rng]⟩
  unfold rng at hx
  rw [List.getElem?_map] at hx
  obtain ⟨j, h1, h2⟩ := Option.map_eq_some_iff.mp hx
  obtain ⟨h3, h4⟩ := List.getElem?_eq_some_iff.mp h1
  rw [List.length_range] at h3
  rw [List.getElem_range] at h4
  subst h4
  refine ⟨h3, fun v H' y => ?_⟩
  obtain ⟨rfl, rfl⟩ := y
  subst h2
  exact ⟨L, Le.refl, w, Dq.int _⟩
theorem si_rng1 {ta : TA} {fa : DA} (h : SA K ta fa) : SI K (iRng1 ta) (diRng1 fa) := fun σ H ε C μ I w s it C' e R q => by
  obtain ⟨⟨rs, C1⟩, e1, e⟩ := Option.bind_eq_some_iff.mp e
  refine h σ H ε C μ I w s rs C1 e1 _ fun J ν H1 vs l1 w1 r1 => ?_
  simp only at e
  split at e
  · split at e
    · rename_i hj
      cases e
      cases r1 with
      | cons r2 r3 =>
        cases r3
        exact ⟨_, by rw [rv_int r2], hj.1, hj.2, q J ν H1 _ l1 w1 it_rng⟩
    · cases e
  · cases e
open Classical in
/-- a for, turn by turn -/
noncomputable def dLoop (ps : List (Nat × List PyData)) (g : DG) (body : DS) : List PyData → Ev → CS → Option DO
  | [], ε, C => if pinned ps C then some (.nx ε C) else none
  | x :: xs, ε, C => if pinned ps C then (g (.d x) ε C).bind fun (ε1, C1) => (body ε1 C1).bind fun o => match o with
      | .nx ε2 C2 => dLoop ps g body xs ε2 C2
      | .ct ε2 C2 => dLoop ps g body xs ε2 C2
      | .bk ε2 C2 => some (.nx ε2 C2)
      | .rt r C2 => some (.rt r C2)
    else none
noncomputable def dFor (fi : DI) (g : DG) (body : DS) : DS := fun ε C => (fi ε C).bind fun (it, C1) => dLoop it.pins g body it.items ε C1
theorem ss_for {wi : TI} {gt : TG} {tb : TS} {fi : DI} {g : DG} {body : DS} (hi : SI K wi fi) (hg : SG K gt g) (hb : SS K tb body) : SS K (tFor wi gt tb) (dFor fi g body) := fun σ H ε C μ I w s o e D q => by
  obtain ⟨⟨it, C1⟩, e1, e⟩ := Option.bind_eq_some_iff.mp e
  refine hi σ H ε C μ I w s it C1 e1 _ fun J ν H1 jt l1 w1 ok => ?_
  have q1 := q.up l1
  refine ⟨fun i m σ' H' => m = it.items.length - i ∧ i ≤ it.items.length ∧ ∃ ε' C' μ' I', Le J ν I' μ' ∧ WC K I' C' μ' H' ∧ WS K I' μ' σ' ε' ∧ dLoop it.pins g body (it.items.drop i) ε' C' = some o,
    ⟨_, rfl, Nat.zero_le _, ε, C1, ν, J, Le.refl, w1, s.up l1, e⟩, ?_⟩
  rintro i m σ' H' ⟨rfl, hi, ε', C', μ', I', l2, w2, s2, e2⟩
  by_cases hlt : i < it.items.length
  · rw [List.drop_eq_getElem_cons hlt] at e2
    unfold dLoop at e2
    split at e2
    · rename_i hp
      obtain ⟨⟨ε1, C2⟩, e3, e2⟩ := Option.bind_eq_some_iff.mp e2
      obtain ⟨p, e4, e2⟩ := Option.bind_eq_some_iff.mp e2
      obtain ⟨k1, k2⟩ := ok I' μ' C' H' l2 w2 hp
      obtain ⟨k3, k4⟩ := k1 i _ (List.getElem?_eq_getElem hlt)
      refine .inr ⟨k3, fun σ'' H'' => ∃ ε'' C'' μ'' I'', Le J ν I'' μ'' ∧ WC K I'' C'' μ'' H'' ∧ WS K I'' μ'' σ'' ε'' ∧ dLoop it.pins g body (it.items.drop (i + 1)) ε'' C'' = some o, fun σ'' H'' hn => ⟨_, by omega, rfl, by omega, hn⟩, fun v H2 y => ?_⟩
      obtain ⟨M, l3, w3, d3⟩ := k4 v H2 y
      refine hg σ' H2 ε' C' μ' M w3 (s2.up l3) v (.d _) d3 ε1 C2 e3 _ fun L ξ H3 σ3 l4 w4 s4 => ?_
      have l5 := (l2.trans l3).trans l4
      refine hb σ3 H3 ε1 C2 ξ L w4 s4 p e4 _ ?_
      cases p with
      | nx ε2 C3 => exact fun N ρ H5 σ5 l6 w6 s6 => ⟨ε2, C3, ρ, N, l5.trans l6, w6, s6, e2⟩
      | ct ε2 C3 => exact fun N ρ H5 σ5 l6 w6 s6 => ⟨ε2, C3, ρ, N, l5.trans l6, w6, s6, e2⟩
      | bk ε2 C3 =>
        cases e2
        exact fun N ρ H5 σ5 l6 => q1 N ρ H5 σ5 (l5.trans l6)
      | rt r C3 =>
        cases e2
        exact fun N ρ H5 v5 l6 => q1 N ρ H5 v5 (l5.trans l6)
    · cases e2
  · have hz : it.items.drop i = [] := List.drop_eq_nil_of_le (by omega)
    rw [hz] at e2
    unfold dLoop at e2
    split at e2
    · rename_i hp
      cases e2
      obtain ⟨k1, k2⟩ := ok I' μ' C' H' l2 w2 hp
      have : i = it.items.length := by omega
      subst this
      exact .inl ⟨k2, q1 I' μ' H' σ' l2 w2 s2⟩
    · cases e2
/-- a while, with so many turns at the most -/
def dWhN (t : DT) (body : DS) : Nat → Ev → CS → Option DO
  | 0, _, _ => none
  | n + 1, ε, C => (t ε C).bind fun (b, C1) => if b = true then (body ε C1).bind fun o => match o with
      | .nx ε2 C2 => dWhN t body n ε2 C2
      | .ct ε2 C2 => dWhN t body n ε2 C2
      | .bk ε2 C2 => some (.nx ε2 C2)
      | .rt r C2 => some (.rt r C2)
    else some (.nx ε C1)
def dWhile (n : Nat) (t : DT) (body : DS) : DS := dWhN t body n
theorem ss_while {c : TT} {tb : TS} {t : DT} {body : DS} {n : Nat} (hc : ST K c t) (hb : SS K tb body) : SS K (tWhile c tb) (dWhile n t body) := fun σ H ε C μ I w s o e D q => by
  refine ⟨fun m σ' H' => ∃ ε' C' μ' I', Le I μ I' μ' ∧ WC K I' C' μ' H' ∧ WS K I' μ' σ' ε' ∧ dWhN t body m ε' C' = some o, ⟨n, ε, C, μ, I, Le.refl, w, s, e⟩, ?_⟩
  rintro m σ' H' ⟨ε', C', μ', I', l1, w1, s1, e1⟩
  cases m with
  | zero => cases e1
  | succ m =>
    obtain ⟨⟨b, C1⟩, e2, e1⟩ := Option.bind_eq_some_iff.mp e1
    refine hc σ' H' ε' C' μ' I' w1 s1 b C1 e2 _ fun J ν H1 l2 w2 => ?_
    cases b with
    | false =>
      cases e1
      exact q J ν H1 σ' (l1.trans l2) w2 (s1.up l2)
    | true =>
      obtain ⟨p, e3, e1⟩ := Option.bind_eq_some_iff.mp (show ((body ε' C1).bind _) = some o from e1)
      refine ⟨fun σ'' H'' => ∃ ε' C' μ' I', Le I μ I' μ' ∧ WC K I' C' μ' H'' ∧ WS K I' μ' σ'' ε' ∧ dWhN t body m ε' C' = some o, fun σ'' H'' hn => ⟨m, Nat.lt_succ_self m, hn⟩, ?_⟩
      refine hb σ' H1 ε' C1 ν J w2 (s1.up l2) p e3 _ ?_
      have l3 := l1.trans l2
      cases p with
      | nx ε2 C3 => exact fun N ρ H5 σ5 l6 w6 s6 => ⟨ε2, C3, ρ, N, l3.trans l6, w6, s6, e1⟩
      | ct ε2 C3 => exact fun N ρ H5 σ5 l6 w6 s6 => ⟨ε2, C3, ρ, N, l3.trans l6, w6, s6, e1⟩
      | bk ε2 C3 =>
        cases e1
        exact fun N ρ H5 σ5 l6 => q N ρ H5 σ5 (l3.trans l6)
      | rt r C3 =>
        cases e1
        exact fun N ρ H5 v5 l6 => q N ρ H5 v5 (l3.trans l6)
end
/-! ### comprehensions -/
def wipeE (ε : Ev) (vs : List Nat) : Ev := vs.foldr (fun i (e : Ev) => e.set i none) ε
theorem wipe_in {σ : L2.St} {i : Nat} {x : Option V} : ∀ {vs : List Nat}, i ∈ vs → L2.wipe (σ.set i x) vs = L2.wipe σ vs
  | [], h => by simp at h
  | v :: vs, h => by
    show (L2.wipe (σ.set i x) vs).set v none = (L2.wipe σ vs).set v none
    by_cases hv : i ∈ vs
    · rw [wipe_in hv]
    · have e : i = v := (List.mem_cons.mp h).resolve_right hv
      subst e
      have g : ∀ {ws : List Nat}, i ∉ ws → L2.wipe (σ.set i x) ws = (L2.wipe σ ws).set i x := by
        intro ws
        induction ws with
        | nil => intro _; rfl
        | cons w ws ih =>
          intro hw
          have hw1 : i ≠ w := fun z => hw (z ▸ List.mem_cons_self)
          have hw2 : i ∉ ws := fun z => hw (List.mem_cons_of_mem _ z)
          show (L2.wipe (σ.set i x) ws).set w none = ((L2.wipe σ ws).set w none).set i x
          rw [ih hw2, List.set_comm _ _ hw1]
      rw [g hv, List.set_set]
def SGW (K : PySem.W.Frag) (vs : List Nat) (t : TG) (g : DG) : Prop := ∀ (σ : L2.St) (H : Hp) (ε : Ev) (C : CS) (μ : List Addr) (I : Hp), WC K I C μ H → WS K I μ σ ε → ∀ v r, RV K I μ v r → ∀ ε' C', g r ε C = some (ε', C') → ∀ Q : L2.St → Hp → Prop, (∀ J ν H' σ', Le I μ J ν → WC K J C' ν H' → WS K J ν σ' ε' → L2.wipe σ' vs = L2.wipe σ vs → Q σ' H') → t v σ H Q
def SGsW (K : PySem.W.Frag) (ws : List Nat) (t : TGs) (g : DGs) : Prop := ∀ (σ : L2.St) (H : Hp) (ε : Ev) (C : CS) (μ : List Addr) (I : Hp), WC K I C μ H → WS K I μ σ ε → ∀ vs xs, DqAll K I vs xs → ∀ ε' C', g xs ε C = some (ε', C') → ∀ Q : L2.St → Hp → Prop, (∀ J ν H' σ', Le I μ J ν → WC K J C' ν H' → WS K J ν σ' ε' → L2.wipe σ' ws = L2.wipe σ ws → Q σ' H') → t vs σ H Q
section
variable {K : PySem.W.Frag} {ws : List Nat}
theorem sw_name {i : Nat} (h : i ∈ ws) : SGW K ws (L2.gName i) (dName i) := fun σ H ε C μ I w s v r hr ε' C' e Q q => by
  cases e
  exact q I μ H _ Le.refl w (s.set hr i) (wipe_in h)
theorem sws_nil : SGsW K ws L2.gNil dgNil := fun σ H ε C μ I w s vs xs h ε' C' e Q q => by
  unfold dgNil at e
  split at e
  · rename_i hx
    subst hx
    cases e
    cases h
    exact ⟨rfl, q I μ H _ Le.refl w s rfl⟩
  · cases e
theorem sws_cons {t : TG} {u : TGs} {g : DG} {k : DGs} (h : SGW K ws t g) (hk : SGsW K ws u k) : SGsW K ws (L2.gCons t u) (dgCons g k) := fun σ H ε C μ I w s vs xs d ε' C' e Q q => by
  cases d with
  | nil => cases e
  | cons d1 d2 =>
    obtain ⟨⟨ε1, C1⟩, e1, e⟩ := Option.bind_eq_some_iff.mp e
    refine ⟨_, _, rfl, ?_⟩
    refine h σ H ε C μ I w s _ (.d _) d1 ε1 C1 e1 _ fun J ν H1 σ1 l1 w1 s1 z1 => ?_
    exact hk σ1 H1 ε1 C1 ν J w1 s1 _ _ (d2.up l1.ex) ε' C' e Q fun L ξ H2 σ2 l2 w2 s2 z2 => q L ξ H2 σ2 (l1.trans l2) w2 s2 (z2.trans z1)
theorem sw_tup {n : Nat} {u : TGs} {k : DGs} (h : SGsW K ws u k) : SGW K ws (L2.gTup K n u) (dgTup n k) := fun σ H ε C μ I w s v r d ε' C' e Q q => by
  unfold dgTup at e
  split at e
  · split at e
    · rename_i xs hl
      have d : Dq K I v (.tuple xs) := d
      cases d with
      | tup g1 t1 => exact ⟨_, _, rfl, ex_t w.ex g1.t, by rw [t1.len]; exact hl, h σ H ε C μ I w s _ _ t1 ε' C' e Q q⟩
    · cases e
  · cases e
/-- the cells from the k-th on are forgotten -/
theorem WC.cut {I : Hp} {C : CS} {μ : List Addr} {H : Hp} (w : WC K I C μ H) (k : Nat) : WC K I (C.take k) (μ.take k) H := by
  refine ⟨w.ex, by rw [List.length_take, List.length_take, w.len], w.nd.sublist (List.take_sublist _ _), fun n xs e => ?_, fun a ha => w.old a (List.mem_of_mem_take ha)⟩
  have hn : n < k := by
    by_cases hn : n < k
    · exact hn
    · rw [List.getElem?_eq_none (by rw [List.length_take]; omega)] at e
      cases e
  rw [List.getElem?_take_of_lt hn] at e
  obtain ⟨a, vs, h1, h2, h3, h4⟩ := w.cell n xs e
  exact ⟨a, vs, by rw [List.getElem?_take_of_lt hn]; exact h1, h2, h3, h4⟩
theorem Le.cut {I J : Hp} {μ ν : List Addr} (l : Le I μ J ν) {k : Nat} (h : μ.length ≤ k) : Le I μ J (ν.take k) := by
  obtain ⟨m, e⟩ := l.pre
  refine ⟨l.ex, m.take (k - μ.length), ?_⟩
  rw [e, List.take_append, List.take_of_length_le h]
def dYes : DT := fun _ C => some (true, C)
open Classical in
noncomputable def dLcL (ps : List (Nat × List PyData)) (g : DG) (t : DT) (f : DE) (n : Nat) : List PyData → Ev → CS → Option CS
  | [], _, C => if pinned ps C then some C else none
  | x :: xs, ε, C => if pinned ps C then (g (.d x) ε C).bind fun (ε1, C1) => (t ε1 C1).bind fun (b, C2) => if b = true then (f ε1 C2).bind fun (r, C3) => (frz r C3).bind fun (y, C4) => (cellAt C4 n).bind fun acc =>
      if acc.length < 10000 then dLcL ps g t f n xs ε ((C4.set n (some (acc ++ [y]))).take (n + 1)) else none
      else dLcL ps g t f n xs ε (C2.take (n + 1))
    else none
noncomputable def dLc (fi : DI) (vs : List Nat) (g : DG) (t : DT) (f : DE) : DE := fun ε C => (fi ε C).bind fun (it, C1) => (dLcL it.pins g t f C1.length it.items (wipeE ε vs) (C1 ++ [some []])).map fun C2 => (.c C1.length, C2)
theorem se_lc {wi : TI} {gt : TG} {tt : TT} {te : TE} {fi : DI} {g : DG} {t : DT} {f : DE} (hi : SI K wi fi) (hg : SGW K ws gt g) (ht : ST K tt t) (hf : SE K te f) : SE K (tLc wi gt tt te ws) (dLc fi ws g t f) := fun σ H ε C μ I w s r C' e Q q => by
  obtain ⟨⟨it, C1⟩, e1, e⟩ := Option.bind_eq_some_iff.mp e
  obtain ⟨C2, e2, e⟩ := Option.map_eq_some_iff.mp e
  cases e
  refine hi σ H ε C μ I w s it C1 e1 _ fun J ν H1 jt l1 w1 ok => fun P hP => ?_
  obtain ⟨w2, l2, h2⟩ := w1.newC hP (vs := []) (xs := []) .nil
  have hn : C1.length = ν.length := w1.len
  have q1 := q.up (l1.trans l2)
  refine ⟨fun i m H' => m = it.items.length - i ∧ i ≤ it.items.length ∧ ∃ D I', Le J (ν ++ [P]) I' (ν ++ [P]) ∧ WC K I' D (ν ++ [P]) H' ∧ dLcL it.pins g t f C1.length (it.items.drop i) (wipeE ε ws) D = some C',
    ⟨_, rfl, Nat.zero_le _, _, J, Le.refl, w2, e2⟩, ?_⟩
  rintro i m H' ⟨rfl, hi', D, I', l3, w3, e3⟩
  have l13 := (l1.trans l2).trans l3
  have hlen : D.length = C1.length + 1 := by rw [w3.len, hn]; simp
  by_cases hlt : i < it.items.length
  · rw [List.drop_eq_getElem_cons hlt] at e3
    unfold dLcL at e3
    split at e3
    · rename_i hp
      obtain ⟨⟨ε1, D1⟩, e4, e3⟩ := Option.bind_eq_some_iff.mp e3
      obtain ⟨⟨b, D2⟩, e5, e3⟩ := Option.bind_eq_some_iff.mp e3
      obtain ⟨k1, k2⟩ := ok I' _ D H' (l2.trans l3) w3 hp
      obtain ⟨k3, k4⟩ := k1 i _ (List.getElem?_eq_getElem hlt)
      refine .inr ⟨k3, fun H'' => ∃ D I', Le J (ν ++ [P]) I' (ν ++ [P]) ∧ WC K I' D (ν ++ [P]) H'' ∧ dLcL it.pins g t f C1.length (it.items.drop (i + 1)) (wipeE ε ws) D = some C', fun H'' hx => ⟨_, by omega, rfl, by omega, hx⟩, fun v H2 y => ?_⟩
      obtain ⟨M, l4, w4, d4⟩ := k4 v H2 y
      have sw : WS K M (ν ++ [P]) (L2.wipe σ ws) (wipeE ε ws) := WS.wipe (s.up (l13.trans l4)) ws
      refine hg _ H2 _ D _ M w4 sw v (.d _) d4 ε1 D1 e4 _ fun N ξ H3 σ3 l5 w5 s5 z5 => ?_
      have zz : L2.wipe (L2.wipe σ ws) ws = L2.wipe σ ws := by
        have g : ∀ (vs : List Nat) (τ : L2.St), (∀ i ∈ vs, ∀ x, τ[i]? = some x → x = none) → L2.wipe τ vs = τ := by
          intro vs
          induction vs with
          | nil => intro τ _; rfl
          | cons v vs ih =>
            intro τ hτ
            show (L2.wipe τ vs).set v none = τ
            rw [ih τ fun i hi => hτ i (List.mem_cons_of_mem _ hi)]
            refine List.ext_getElem? fun j => ?_
            by_cases hj : v = j
            · subst hj
              rw [List.getElem?_set]
              simp only [if_true]
              by_cases hl : v < τ.length
              · rw [if_pos hl]
                have := hτ v List.mem_cons_self _ (List.getElem?_eq_getElem hl)
                rw [List.getElem?_eq_getElem hl, this]
              · rw [if_neg hl, List.getElem?_eq_none (by omega)]
            · rw [List.getElem?_set_ne hj]
        refine g ws _ fun i hi x hx => ?_
        cases x with
        | none => rfl
        | some v => exact absurd hi (wipe_some hx).2
      refine ⟨z5.trans zz, ?_⟩
      refine ht σ3 H3 ε1 D1 ξ N w5 s5 b D2 e5 _ fun N2 ξ2 H4 l6 w6 => ?_
      have l46 := (l4.trans l5).trans l6
      have pn : (ν ++ [P]).length = C1.length + 1 := by rw [hn]; simp
      have back : ∀ {B : Hp} {ρ : List Addr} {E : CS} {G : Hp}, Le I' (ν ++ [P]) B ρ → WC K B E ρ G → Le J (ν ++ [P]) B (ν ++ [P]) ∧ WC K B (E.take (C1.length + 1)) (ν ++ [P]) G := fun {B ρ E G} l w => by
        obtain ⟨x, hx⟩ := l.pre
        have hr : ρ.take (C1.length + 1) = ν ++ [P] := by rw [hx, List.take_append_of_le_length (by omega), List.take_of_length_le (by omega)]
        refine ⟨⟨l3.ex.trans l.ex, [], by simp⟩, ?_⟩
        have := w.cut (C1.length + 1)
        rw [hr] at this
        exact this
      cases b with
      | false =>
        obtain ⟨b1, b2⟩ := back l46 w6
        exact ⟨_, _, b1, b2, e3⟩
      | true =>
        obtain ⟨⟨r, D3⟩, e6, e3⟩ := Option.bind_eq_some_iff.mp (show ((f ε1 D2).bind _) = some C' from e3)
        obtain ⟨⟨y, D4⟩, e7, e3⟩ := Option.bind_eq_some_iff.mp e3
        obtain ⟨acc, e8, e3⟩ := Option.bind_eq_some_iff.mp e3
        split at e3
        · rename_i hacc
          refine hf σ3 H4 ε1 D2 ξ2 N2 w6 (s5.up l6) r D3 e6 _ fun N3 ξ3 H5 v5 l7 w7 r7 => ?_
          obtain ⟨N4, l8, w8, d8⟩ := frz_ok w7 r7 e7
          have l48 := (l46.trans l7).trans l8
          obtain ⟨a, vs, h3, h4, h5, h6⟩ := w8.cell _ _ (cellAt_of e8)
          have ha : a = P := by
            have := (l3.trans l48).at_ h2
            exact Option.some.inj (h3.symm.trans this)
          rw [ha] at h3 h5
          refine ⟨vs, h5, by rw [h6.len]; exact Nat.lt_of_lt_of_le hacc (by decide), ?_⟩
          have w9 := w8.put (cellAt_of e8) h3 (h6.app (.cons d8 .nil))
          obtain ⟨b1, b2⟩ := back l48 w9
          exact ⟨_, _, b1, b2, e3⟩
        · cases e3
    · cases e3
  · have hz : it.items.drop i = [] := List.drop_eq_nil_of_le (by omega)
    rw [hz] at e3
    unfold dLcL at e3
    split at e3
    · rename_i hp
      cases e3
      obtain ⟨k1, k2⟩ := ok I' _ C' H' (l2.trans l3) w3 hp
      have : i = it.items.length := by omega
      subst this
      exact .inl ⟨k2, q1 I' _ H' _ l3 w3 ⟨P, by rw [l3.at_ h2], rfl⟩⟩
    · cases e3
theorem st_yes : ST K tYes dYes := fun σ H ε C μ I w s b C' e Q q => by
  cases e
  exact q I μ H Le.refl w
/-! ### what nobody holds any more -/
def fin (k : Nat) (r : SV) (C : CS) : Option (SV × CS) := match r with
  | .d x => some (.d x, C.take k)
  | .c n => if n < k then some (.c n, C.take k) else (cellAt C n).map fun xs => (.c k, C.take k ++ [some xs])
  | .g i j => some (.g i j, C.take k)
  | .b n m => if n + m ≤ k then some (.b n m, C.take k) else none
theorem fin_ok {I J : Hp} {μ ν : List Addr} {C C' D : CS} {H : Hp} {v : V} {r r' : SV} (l : Le I μ J ν) (w : WC K J C ν H) (h : RV K J ν v r) (e : fin μ.length r C = some (r', D)) : ∃ ξ, Le I μ J ξ ∧ WC K J D ξ H ∧ RV K J ξ v r' := by
  obtain ⟨m, hm⟩ := l.pre
  have hk : ν.take μ.length = μ := by rw [hm]; simp
  have w1 := w.cut μ.length
  have l1 : Le I μ J μ := ⟨l.ex, [], by simp⟩
  cases r with
  | d x =>
    cases e
    exact ⟨ν.take μ.length, by rw [hk]; exact l1, w1, h⟩
  | g i' j' =>
    cases e
    exact ⟨ν.take μ.length, by rw [hk]; exact l1, w1, h⟩
  | b n m =>
    unfold fin at e
    simp only at e
    split at e
    · rename_i hn
      cases e
      obtain ⟨x, us, e1, e2, e3, e4⟩ := h
      exact ⟨ν.take μ.length, by rw [hk]; exact l1, w1, x, us, e1, e2, e3, fun i hi => let ⟨b, h1, h2⟩ := e4 i hi; ⟨b, h1, by rw [List.getElem?_take_of_lt (by omega)]; exact h2⟩⟩
    · cases e
  | c n =>
    obtain ⟨a, ha, rfl⟩ := h
    unfold fin at e
    simp only at e
    split at e
    · rename_i hn
      cases e
      exact ⟨ν.take μ.length, by rw [hk]; exact l1, w1, a, by rw [List.getElem?_take_of_lt hn]; exact ha, rfl⟩
    · rename_i hn
      obtain ⟨xs, e1, e⟩ := Option.map_eq_some_iff.mp e
      cases e
      obtain ⟨b, vs, g1, g2, g3, g4⟩ := w.cell _ _ (cellAt_of e1)
      have : a = b := Option.some.inj (ha.symm.trans g1)
      subst this
      have hna : a ∉ μ := fun z => by
        obtain ⟨i, hi⟩ := List.getElem?_of_mem z
        have hi' := l.at_ hi
        have := nd_ix w.nd hi' ha
        subst this
        exact hn (List.getElem?_eq_some_iff.mp hi).1
      have hl : C.length = ν.length := w.len
      have hl2 : μ.length ≤ ν.length := by rw [hm]; simp
      refine ⟨μ ++ [a], ⟨l.ex, [a], rfl⟩, ⟨w.ex, by simp; omega, ?_, fun n' ys e' => ?_, fun c hc => ?_⟩, a, by simp, rfl⟩
      · rw [List.nodup_append]
        refine ⟨(w.nd.sublist (by rw [← hk]; exact List.take_sublist _ _)), by simp, fun x hx y hy z => ?_⟩
        rw [List.mem_singleton] at hy
        subst hy
        subst z
        exact hna hx
      · have hlt : (C.take μ.length).length = μ.length := by rw [List.length_take]; omega
        by_cases hn' : n' < μ.length
        · rw [List.getElem?_append_left (by omega)] at e'
          obtain ⟨b, us, k1, k2, k3, k4⟩ := w1.cell n' ys e'
          rw [hk] at k1
          exact ⟨b, us, by rw [List.getElem?_append_left hn']; exact k1, k2, k3, k4⟩
        · rw [List.getElem?_append_right (by omega), hlt] at e'
          have hz : n' - μ.length = 0 := by
            by_cases hz : n' - μ.length = 0
            · exact hz
            · rw [List.getElem?_eq_none (by simp; omega)] at e'
              cases e'
          rw [hz] at e'
          have e' : xs = ys := by simpa using e'
          subst e'
          have : n' = μ.length := by omega
          subst this
          exact ⟨a, vs, by simp, g2, g3, g4⟩
      · rcases List.mem_append.mp hc with z | z
        · exact w.old c (by rw [hm]; exact List.mem_append_left _ z)
        · rw [List.mem_singleton.mp z, g3]
          exact fun z => nomatch z
def dTidy (f : DE) : DE := fun ε C => (f ε C).bind fun (r, C1) => fin C.length r C1
theorem se_tidy {te : TE} {f : DE} (h : SE K te f) : SE K te (dTidy f) := fun σ H ε C μ I w s r C' e Q q => by
  obtain ⟨⟨p, C1⟩, e1, e⟩ := Option.bind_eq_some_iff.mp e
  refine h σ H ε C μ I w s p C1 e1 _ fun J ν H1 v l1 w1 r1 => ?_
  rw [w.len] at e
  obtain ⟨ξ, l2, w2, r2⟩ := fin_ok (C' := C1) l1 w1 r1 e
  exact q J ξ H1 v l2 w2 r2
def dTidyT (f : DT) : DT := fun ε C => (f ε C).map fun (b, C1) => (b, C1.take C.length)
theorem st_tidy {tt : TT} {f : DT} (h : ST K tt f) : ST K tt (dTidyT f) := fun σ H ε C μ I w s b C' e Q q => by
  obtain ⟨⟨p, C1⟩, e1, e⟩ := Option.map_eq_some_iff.mp e
  cases e
  refine h σ H ε C μ I w s b C1 e1 _ fun J ν H1 l1 w1 => ?_
  rw [w.len] at q
  exact q J _ H1 (l1.cut (Nat.le_refl _)) (w1.cut _)
end
end Dn
set_option Elab.async false
set_option linter.all false
set_option maxRecDepth 100000
namespace Dn
open PySem PySem.Spec PyProof.Rows L2
open Evl (Ex Ex.refl Ex.trans Ex.new fresh_back ex_l ex_t ex_rd)
/-! ### defs and their calls -/
abbrev DF := List SV → CS → Option (SV × CS)
def runF (a n : Nat) (body : DS) : DF := fun rs C => if rs.length = a then (body (rs.map some ++ List.replicate (n - a) none) C).bind fun o => match o with
    | .rt r C1 => fin C.length r C1
    | .nx _ C1 => some (.d .none, C1.take C.length)
    | _ => none
  else none
structure FnD (P : Program) (w : World) (K : PySem.W.Frag) (mg : Str → Option Value) (base : Heap) (k : Nat) (f : Addr) (fd : FuncData) (ps : List Str) (m : DF) : Prop where
  arity : ∀ rs C q, m rs C = some q → rs.length = ps.length
  go : ∀ (A : Around) (out : List Env) (s : Shared) (H : Hp) (ar : Args) (us : List Value) (vs : List V) (rs : List SV) (I : Hp) (C : CS) (μ : List Addr) (r : SV) (D : CS) (Q : VK), Room k A → A.guards = some [] → Env0 P w K mg base A out s H →
    BindsTo s fd ar (ps.zip us) → Vals vs us → WC K I C μ H → RVs K I μ vs rs → m rs C = some (r, D) → Thn K I μ D r Q → codeAny (model P w) A (.call (.ref f) ar) (CR CX0 out P w H s Q E0) s
theorem FnD.mono {P : Program} {w : World} {K : PySem.W.Frag} {mg : Str → Option Value} {base : Heap} {j k : Nat} {f : Addr} {fd : FuncData} {ps : List Str} {m : DF} (F : FnD P w K mg base j f fd ps m) (h : j ≤ k) : FnD P w K mg base k f fd ps m :=
  ⟨F.arity, fun A out s H ar us vs rs I C μ r D Q hr => F.go A out s H ar us vs rs I C μ r D Q (hr.mono h)⟩
theorem start_ok {K : PySem.W.Frag} {I : Hp} {μ : List Addr} {N : List Str} {vs : List V} {rs : List SV} (h : RVs K I μ vs rs) : WS K I μ (L2.start N vs) (rs.map some ++ List.replicate (N.length - rs.length) none) := by
  have hl := h.len
  refine ⟨by unfold L2.start; simp [hl], fun i r e => ?_⟩
  unfold L2.start
  have g : ∀ {vs : List V} {rs : List SV}, RVs K I μ vs rs → ∀ (i : Nat) r, rs[i]? = some r → ∃ v, vs[i]? = some v ∧ RV K I μ v r := by
    intro vs rs h
    induction h with
    | nil => intro i r e; simp at e
    | cons h1 h2 ih =>
      intro i r e
      cases i with
      | zero =>
        simp at e
        subst e
        exact ⟨_, rfl, h1⟩
      | succ i => simpa using ih i r (by simpa using e)
  by_cases hi : i < rs.length
  · rw [List.getElem?_append_left (by simpa using hi), List.getElem?_map] at e
    obtain ⟨q, h1, h2⟩ := Option.map_eq_some_iff.mp e
    cases h2
    obtain ⟨v, h3, h4⟩ := g h i _ h1
    exact ⟨v, by rw [List.getElem?_append_left (by simp; omega), List.getElem?_map, h3]; rfl, h4⟩
  · rw [List.getElem?_append_right (by simp; omega), List.getElem?_replicate] at e
    split at e <;> cases e
section
variable {P : Program} {w : World} {K : PySem.W.Frag} {mg : Str → Option Value} {base : Heap}
/-- a def keeps what its body tells -/
theorem fnd_of {x qual : Str} {st : Stmt} {f : Addr} {fd : FuncData} {N ps : List Str} {k : Nat} {g : DS} (F : Fun K x qual st f fd) (S : FnScope N ps (defScope st))
    (hb : ∀ (cdv : Value) (A : Around) (out : List Env) (s : Shared) (H : Hp), Room k (A.deeper (envOfC qual (defScope st) s.heap.objs.size f cdv)) → A.guards = some [] →
      ∃ t, PSs (cxOf CX0 P w K mg base N qual (defScope st) f cdv A out s H E0).nox (defBody st) t ∧ SS K t g) :
    FnD P w K mg base (k + 1) f fd ps (runF ps.length N.length g) := by
  obtain ⟨oc, od, kV, doc, pm, an, cdv, ct, osl, rfl, lk, hcd⟩ := F.ex
  refine ⟨fun rs C q e => ?_, fun A out s H ar us vs rs I C μ r D Q hr hgd e0 hbind rv wc rr em hq => ?_⟩
  · unfold runF at e
    split at e
    · assumption
    · cases e
  · unfold runF at em
    split at em
    · rename_i hlen
      obtain ⟨o, eo, em⟩ := Option.bind_eq_some_iff.mp em
      have hvl : vs.length = ps.length := rr.len.trans hlen
      have inK : K.In s.heap := e0.mod.kin.keeps fun b o e => (e0.bs b o e).1
      have nolim : s.heap.NoLimit := e0.mod.nolimit.keeps fun b o e => (e0.bs b o e).1
      refine codeAny_call_function hr.depth (inK _ _ lk) rfl S.co S.gen rfl (PySem.W.codeRec_of inK hcd) (hbind _ _ _ _ ?_)
      refine wpAny_newFunctionEnv_cells S.kind (fun y hy => ?_) fun env he s1 x => ?_
      · obtain ⟨n, v⟩ := y
        rcases S.par n (List.of_mem_zip hy).1 with z | z
        · exact .inl z
        · exact .inr ⟨z, PySem.W.cellsFrom_some _ _ _ (.inl z)⟩
      · subst he
        refine ⟨nolim.keeps x.toInCall.keep, codeAny_func ?_⟩
        let X0 := cxOf CX0 P w K mg base N qual (defScope st) f cdv A out s H E0
        have J0 : Inv X0 [] (start N vs) H s1 := inv_start S hr.hd e0 hvl rv x
        obtain ⟨t, ht, hs⟩ := hb cdv A out s H (hr.deeper _) hgd
        have start1 := start_ok (N := N) rr
        rw [hlen] at start1
        have hq1 : t { nx := fun _ H' => Q .non H', rt := Q } (start N vs) H := by
          refine hs _ H _ C μ I wc start1 o eo _ ?_
          cases o with
          | rt r1 C1 =>
            intro J ν H1 v l1 w1 r1
            simp only at em
            rw [wc.len] at em
            obtain ⟨ξ, l2, w2, r2⟩ := fin_ok (C' := C1) l1 w1 r1 em
            exact hq J ξ H1 v l2 w2 r2
          | nx e1 C1 =>
            intro J ν H1 σ1 l1 w1 s1
            have em : some (SV.d .none, C1.take C.length) = some (r, D) := em
            cases em
            rw [wc.len] at hq
            exact hq J _ H1 _ (l1.cut (Nat.le_refl _)) (w1.cut _) Dq.non
          | bk e1 C1 => cases em
          | ct e1 C1 => cases em
        refine wpAny_mono (ht.nox.run [] s1 (start N vs) H _ J0 hq1) (fun fl s' hfl => ?_) fun e s' he => he
        cases fl with
        | ret u =>
          obtain ⟨v, σ', H', J1, r1, q1⟩ := hfl
          exact ⟨v, H', J1.os, J1.bare, J1.base, J1.hok, r1, q1⟩
        | next =>
          obtain ⟨σ', H', J1, q1⟩ := hfl
          exact ⟨V.non, H', J1.os, J1.bare, J1.base, J1.hok, rfl, q1⟩
        | brk =>
          obtain ⟨_, _, _, q1⟩ := hfl
          exact q1.elim
        | cont =>
          obtain ⟨_, _, _, q1⟩ := hfl
          exact q1.elim
    · cases em
end
/-- f(..) by the def's own function -/
def tD (K : PySem.W.Frag) (m : DF) (t : TA) : TE := fun σ H Q => t σ H fun vs H1 => ∃ I C μ rs r D, WC K I C μ H1 ∧ RVs K I μ vs rs ∧ m rs C = some (r, D) ∧ Thn K I μ D r Q
section
variable {X : Cx} {k : Nat} {f : Addr} {fd : FuncData} {ps : List Str} {m : DF} {x : Str} {p pos : Pos} {e : Expr} {es : List Expr} {t : TA}
theorem pe_callD (F : FnD X.prog X.w X.K X.mg X.base k f fd ps m) (hr : Room k X.A) (hgd : X.A.guards = some []) (hg : Gl X x) (hm : X.mg x = some (.ref f)) (hk : PySem.W.keepIn X.K (.ref f) = true) (hb : Binds X.K fd ps [])
    (ha : PA X (e :: es) t) (hdb : (x == ("__debug__" : Str)) = false := by decide) (he : starEach (e :: es) X.env = (false, eval e X.env) :: starEach es X.env := by rfl) (hpl : (backTo pos (starEach es X.env)).any (·.1) = false := by rfl) :
    PE X (.Call (.Name x p) (e :: es) [] pos) (tD X.K m t) := by
  refine ⟨fun pins s σ H Q I h => wpAny_Call_Name_kw (ld_glob I hg hm ?_ hdb)⟩
  refine PySem.W.callWith_K (h₀ := X.base) I.ok.mod.kin hk (thn (ha.run pos pins s σ H _ I h) ?_) he hpl
  rintro us s1 ⟨vs, H1, I1, rv, J, C, μ, rs, r, D, w1, r1, em, hq⟩
  refine ⟨I1.kIn, wpAny_call (codeAny_mono (F.go X.A X.stack s1 H1 ⟨us, []⟩ us vs rs J C μ r D Q hr hgd I1.env0 ?_ rv w1 r1 em hq) fun res s' hq => ?_)⟩
  · have hl : us.length = ps.length := by rw [← rv.length, r1.len, F.arity _ _ _ em]
    have := hb s1 us I1.kIn (by rw [List.append_nil]; exact hl)
    rw [List.append_nil] at this
    exact this
  · cases res with
    | error e => exact hq.elim
    | ok fl =>
      cases fl with
      | ret u => exact I1.after hq
      | next => exact hq.elim
      | brk => exact hq.elim
      | cont => exact hq.elim
end
theorem se_callD {K : PySem.W.Frag} {m : DF} {t : TA} {fa : DA} (h : SA K t fa) : SE K (tD K m t) (dCall m fa) := fun σ H ε C μ I w s r C' e Q q => by
  obtain ⟨⟨rs, C1⟩, e1, e⟩ := Option.bind_eq_some_iff.mp e
  exact h σ H ε C μ I w s rs C1 e1 _ fun J ν H1 vs l1 w1 r1 => ⟨J, C1, ν, rs, r, C', w1, r1, e, q.up l1⟩
end Dn
set_option Elab.async false
set_option linter.all false
set_option maxRecDepth 100000
namespace Dn
open PySem PySem.Spec PyProof.Rows L2
open Evl (Ex Ex.refl Ex.trans Ex.new fresh_back ex_l ex_t ex_rd)
/-! ### what a value reads as -/
theorem kv_keys {P : Program} {w : World} {h : Heap} : ∀ {kvs : List (Key × V)} {us : List (Key × Value)} {es : List DictEntry} {ds : List PyData}, KV kvs us → Pairs (mixKind P w) es us → ds = kvs.map (fun p => kD p.1) → ∃ as, ReadsAll h (es.map (·.key)) ds as
  | _, _, _, _, .nil, .nil, e => by
    subst e
    exact ⟨_, .nil⟩
  | _, _, _, _, .cons r rs, .cons hk _ t, e => by
    subst e
    obtain ⟨as, hs⟩ := kv_keys rs t rfl
    obtain ⟨e1, _⟩ := r
    rw [mixKind_is] at hk
    rcases keyIs_shape hk with ⟨i, tk, e2, e3⟩ | ⟨x, tk, e2, e3⟩
    · rw [List.map_cons, List.map_cons, e3, e1, e2]
      exact ⟨_, .cons (.int i tk) hs⟩
    · rw [List.map_cons, List.map_cons, e3, e1, e2]
      exact ⟨_, .cons (.str x tk) hs⟩
theorem kv_vals {P : Program} {w : World} : ∀ {kvs : List (Key × V)} {us : List (Key × Value)} {es : List DictEntry}, KV kvs us → Pairs (mixKind P w) es us → Vals (kvs.map Prod.snd) (es.map (·.val))
  | _, _, _, .nil, .nil => .nil
  | _, _, _, .cons r rs, .cons _ hv t => by
    obtain ⟨_, e2⟩ := r
    rw [List.map_cons, List.map_cons, hv]
    exact .cons e2 (kv_vals rs t)
section
variable {X : Cx} {pins : List (Addr × Obj)} {σ : L2.St} {H : Hp} {s : Shared}
mutual
theorem Dq.reads (I : Inv X pins σ H s) : ∀ {v : V} {d : PyData} {u : Value}, Dq X.K H v d → RelV v u → ∃ as, Reads s.heap u d as
  | _, _, _, .non, r => by cases r; exact ⟨_, Reads.none⟩
  | _, _, _, .bl b, r => by cases r; exact ⟨_, Reads.bool b⟩
  | _, _, _, .int i, r => by obtain ⟨t, rfl⟩ := r; exact ⟨_, Reads.int i t⟩
  | _, _, _, .str x, r => by obtain ⟨t, rfl⟩ := r; exact ⟨_, Reads.str x t⟩
  | _, _, _, .lst hs t, r => by
    cases r
    obtain ⟨its, rv, ⟨o, n, ho, hc, _, hd⟩, _⟩ := I.list hs
    obtain ⟨as, hr⟩ := DqAll.reads I t rv
    exact ⟨_, Reads.list ho hc hd hr⟩
  | _, _, _, .tup hs t, r => by
    cases r
    obtain ⟨its, rv, ⟨o, ho, hc, n, hd⟩, _⟩ := I.tuple hs.t
    obtain ⟨as, hr⟩ := DqAll.reads I t rv
    exact ⟨_, Reads.tuple ho hc hd hr⟩
  | _, _, _, .dct hs k t, r => by
    cases r
    obtain ⟨_, _, us, rk, o, es, ep, ho, hx, hd, _, hp, _⟩ := I.hok _ _ hs
    obtain ⟨as, h1⟩ := kv_keys (h := s.heap) rk hp k
    obtain ⟨bs, h2⟩ := DqAll.reads I t (kv_vals rk hp)
    exact ⟨_, Reads.dict ho hx.1 hd h1 h2⟩
theorem DqAll.reads (I : Inv X pins σ H s) : ∀ {vs : List V} {ds : List PyData} {us : List Value}, DqAll X.K H vs ds → Vals vs us → ∃ as, ReadsAll s.heap us ds as
  | _, _, _, .nil, .nil => ⟨_, .nil⟩
  | _, _, _, .cons h t, .cons r q => by
    obtain ⟨as, h1⟩ := Dq.reads I h r
    obtain ⟨bs, h2⟩ := DqAll.reads I t q
    exact ⟨_, .cons h1 h2⟩
end
end
/-! ### data -/
mutual
/-- no list in it -/
def noLists : PyData → Bool
  | .list _ => false
  | .tuple xs => noListsAll xs
  | .dict kvs => noListsKv kvs
  | _ => true
def noListsAll : List PyData → Bool
  | [] => true
  | x :: xs => noLists x && noListsAll xs
def noListsKv : List (PyData × PyData) → Bool
  | [] => true
  | (_, x) :: xs => noLists x && noListsKv xs
end
/-! ### == and != of any data -/
/-- two lists of unlike lengths -/
def unlike : PyData → PyData → Bool
  | .list xs, .list ys => xs.length != ys.length
  | _, _ => false
def fits (x y : PyData) : Bool := (x.plain && y.plain && decide (min x.depth y.depth ≤ 64)) || unlike x y
theorem unlike_of {x y : PyData} (h : unlike x y = true) : ∃ xs ys, x = .list xs ∧ y = .list ys ∧ xs.length ≠ ys.length := by
  unfold unlike at h
  split at h
  · exact ⟨_, _, rfl, rfl, by simpa using h⟩
  · cases h
def rEqP (K : PySem.W.Frag) : R2 := fun x y H Q => ∃ d e, Dq K H x d ∧ Dq K H y e ∧ fits d e = true ∧ Q (.bl (PyData.eqv d e)) H
def rNeP (K : PySem.W.Frag) : R2 := fun x y H Q => ∃ d e, Dq K H x d ∧ Dq K H y e ∧ fits d e = true ∧ Q (.bl (!PyData.eqv d e)) H
section
variable {X : Cx}
theorem op_eqP (hu : X.A.units + 64 < cLine) : OpR X (compareOp .Eq) (rEqP X.K) := by
  rintro pins s σ H x y v u Q I rx ry ⟨d, e, hd, he, hf, q⟩
  obtain ⟨as, r1⟩ := Dq.reads I hd rx
  obtain ⟨bs, r2⟩ := Dq.reads I he ry
  unfold fits at hf
  simp only [Bool.or_eq_true, Bool.and_eq_true, decide_eq_true_eq] at hf
  rcases hf with hf | hf
  · exact SeqAt.eq_plain r1 r2 hf.1.1 hf.1.2 (by omega) ⟨.bl _, H, I, rfl, q⟩
  · obtain ⟨xs, ys, rfl, rfl, hl⟩ := unlike_of hf
    have e : PyData.eqv (.list xs) (.list ys) = false := SeqAt.eqvAll_other_length hl
    rw [e] at q
    cases r1 with
    | list a1 a2 a3 a4 =>
      cases r2 with
      | list b1 b2 b3 b4 =>
        have n1 := SeqAt.ReadsAll.length _ _ _ a4
        have n2 := SeqAt.ReadsAll.length _ _ _ b4
        exact SeqAt.RcAt.lists_lengths ⟨_, a1, a2, _, a3⟩ ⟨_, b1, b2, _, b3⟩ (by simp at n1 n2 ⊢; omega) (by omega) X.prog X.w _ _ ⟨.bl _, H, I, rfl, q⟩
theorem op_neP (hu : X.A.units + 64 < cLine) : OpR X (compareOp .NotEq) (rNeP X.K) := by
  rintro pins s σ H x y v u Q I rx ry ⟨d, e, hd, he, hf, q⟩
  obtain ⟨as, r1⟩ := Dq.reads I hd rx
  obtain ⟨bs, r2⟩ := Dq.reads I he ry
  unfold fits at hf
  simp only [Bool.or_eq_true, Bool.and_eq_true, decide_eq_true_eq] at hf
  rcases hf with hf | hf
  · exact SeqAt.ne_plain r1 r2 hf.1.1 hf.1.2 (by omega) ⟨.bl _, H, I, rfl, q⟩
  · obtain ⟨xs, ys, rfl, rfl, hl⟩ := unlike_of hf
    have e : PyData.eqv (.list xs) (.list ys) = false := SeqAt.eqvAll_other_length hl
    rw [e] at q
    cases r1 with
    | list a1 a2 a3 a4 =>
      cases r2 with
      | list b1 b2 b3 b4 =>
        have n1 := SeqAt.ReadsAll.length _ _ _ a4
        have n2 := SeqAt.ReadsAll.length _ _ _ b4
        exact SeqAt.RcNeAt.lists_lengths ⟨_, a1, a2, _, a3⟩ ⟨_, b1, b2, _, b3⟩ (by simp at n1 n2 ⊢; omega) (by omega) X.prog X.w _ _ ⟨.bl _, H, I, rfl, q⟩
end
def gEqP (a b : SV) (C : CS) : Option (SV × CS) := (rdD a C).bind fun x => (rdD b C).bind fun y => if fits x y = true then some (.d (.bool (PyData.eqv x y)), C) else none
def gNeP (a b : SV) (C : CS) : Option (SV × CS) := (rdD a C).bind fun x => (rdD b C).bind fun y => if fits x y = true then some (.d (.bool !(PyData.eqv x y)), C) else none
section
variable {K : PySem.W.Frag}
theorem rdDq {I : Hp} {μ : List Addr} {C : CS} {H : Hp} {v : V} {r : SV} (w : WC K I C μ H) (h : RV K I μ v r) {x : PyData} (e : rdD r C = some x) : Dq K H v x := by
  cases r with
  | d y =>
    cases e
    exact Dq.up w.ex h
  | c n =>
    obtain ⟨xs, q, rfl⟩ := Option.map_eq_some_iff.mp e
    obtain ⟨a, vs, rfl, _, h3, h4⟩ := rdC_ok w h (cellAt_of q)
    exact .lst (.inl (.inl h3)) (h4.up w.ex)
  | g i j => cases e
  | b n k => cases e
theorem rk_eqP : R2K K (rEqP K) gEqP := fun I C μ H w x y a b ra rb q C' e Q k => by
  obtain ⟨xs, e1, e⟩ := Option.bind_eq_some_iff.mp e
  obtain ⟨ys, e2, e⟩ := Option.bind_eq_some_iff.mp e
  split at e
  · rename_i hl
    cases e
    exact ⟨xs, ys, rdDq w ra e1, rdDq w rb e2, hl, k I μ H _ Le.refl w (Dq.bl _)⟩
  · cases e
theorem rk_neP : R2K K (rNeP K) gNeP := fun I C μ H w x y a b ra rb q C' e Q k => by
  obtain ⟨xs, e1, e⟩ := Option.bind_eq_some_iff.mp e
  obtain ⟨ys, e2, e⟩ := Option.bind_eq_some_iff.mp e
  split at e
  · rename_i hl
    cases e
    exact ⟨xs, ys, rdDq w ra e1, rdDq w rb e2, hl, k I μ H _ Le.refl w (Dq.bl _)⟩
  · cases e
end
/-! ### built-in functions -/
/-- a datum that stands alone -/
def flat : PyData → Bool
  | .none | .bool _ | .int _ | .str _ => true
  | _ => false
def toV : PyData → V
  | .bool b => .bl b
  | .int i => .int i
  | .str x => .str x
  | _ => .non
theorem toV_ok {K : PySem.W.Frag} {I : Hp} {d : PyData} (h : flat d = true) : Dq K I (toV d) d := by
  cases d <;> first | exact .non | exact .bl _ | exact .int _ | exact .str _ | (simp [flat] at h)
def gLook (f : PyData → Option PyData) (rs : List SV) (C : CS) : Option (SV × CS) := match rs with
  | [r] => (rdD r C).bind fun d => (f d).bind fun e => if flat e = true then some (.d e, C) else none
  | _ => none
def rLookF (K : PySem.W.Frag) (f : PyData → Option PyData) : List V → Hp → VK → Prop := fun xs H Q => ∃ x d e, xs = [x] ∧ Dq K H x d ∧ f d = some e ∧ flat e = true ∧ Q (toV e) H
theorem rl_look {K : PySem.W.Frag} {f : PyData → Option PyData} : RLK K (rLookF K f) (gLook f) := fun I C μ H w xs as r q C' e Q k => by
  unfold gLook at e
  split at e
  · obtain ⟨d, e1, e⟩ := Option.bind_eq_some_iff.mp e
    obtain ⟨z, e2, e⟩ := Option.bind_eq_some_iff.mp e
    split at e
    · rename_i hz
      cases e
      cases r with
      | cons r1 r2 =>
        cases r2
        exact ⟨_, d, z, rfl, rdDq w r1 e1, e2, hz, k I μ H _ Le.refl w (toV_ok hz)⟩
    · cases e
  · cases e
/-- len -/
def fLen : PyData → Option PyData
  | .list xs => some (.int xs.length)
  | .tuple xs => some (.int xs.length)
  | .str x => if x.length ≤ 100000 then some (.int x.length) else none
  | _ => none
def intsOf : List PyData → Option (List Int)
  | [] => some []
  | .int i :: xs => (intsOf xs).map (i :: ·)
  | _ => none
def blsOf : List PyData → Option (List Bool)
  | [] => some []
  | .bool i :: xs => (blsOf xs).map (i :: ·)
  | _ => none
theorem bls_of {K : PySem.W.Frag} {I : Hp} : ∀ {vs : List V} {ds : List PyData} {ns : List Bool}, DqAll K I vs ds → blsOf ds = some ns → vs = ns.map V.bl
  | _, _, _, .nil, e => by cases e; rfl
  | _, _, _, .cons h t, e => by
    cases h <;> first | (cases e; done) | skip
    obtain ⟨ms, e1, e2⟩ := Option.map_eq_some_iff.mp e
    subst e2
    rw [bls_of t e1]
    rfl
def fAll : PyData → Option PyData
  | .list xs => (blsOf xs).map fun ns => .bool (ns.all id)
  | _ => none
section
variable {X : Cx}
theorem line5 {n : Nat} (h : n ≤ 100000) : n ≤ sizeLine := Nat.le_trans h (by decide)
theorem call_lenD : CallR X (.builtin "len") (rLookF X.K fLen) := by
  rintro pins s σ H xs us Q I r ⟨x, d, e, rfl, hd, he, hz, q⟩
  cases hd with
  | lst h t =>
    cases he
    exact call_len_seq pins s σ H _ us Q I r ⟨_, _, rfl, .inl h, by rw [t.len]; exact q⟩
  | tup h t =>
    cases he
    exact call_len_seq pins s σ H _ us Q I r ⟨_, _, rfl, .inr h.t, by rw [t.len]; exact q⟩
  | str x =>
    unfold fLen at he
    simp only at he
    split at he
    · rename_i hl
      cases he
      exact call_len_str pins s σ H _ us Q I r ⟨x, rfl, line5 hl, q⟩
    · cases he
  | non => cases he
  | bl b => cases he
  | int i => cases he
  | dct _ _ _ => cases he
theorem call_allD (hc : X.calm = true) : CallR X (.builtin "all") (rLookF X.K fAll) := by
  rintro pins s σ H xs us Q I r ⟨x, d, e, rfl, hd, he, hz, q⟩
  cases hd <;> first | (cases he; done) | skip
  rename_i h t
  obtain ⟨ns, e1, rfl⟩ := Option.map_eq_some_iff.mp he
  rw [bls_of t e1] at h
  exact cr_all hc pins s σ H _ us Q I r ⟨_, ns, rfl, h, q⟩
/-- max, min of two ints -/
def gMax2 (rs : List SV) (C : CS) : Option (SV × CS) := match rs with
  | [.d (.int i), .d (.int j)] => some (.d (.int (if j > i then j else i)), C)
  | _ => none
def gMin2 (rs : List SV) (C : CS) : Option (SV × CS) := match rs with
  | [.d (.int i), .d (.int j)] => some (.d (.int (if j < i then j else i)), C)
  | _ => none
theorem rl_max2 {K : PySem.W.Frag} : RLK K (fun xs H Q => ∃ i j, xs = [.int i, .int j] ∧ Q (.int (if j > i then j else i)) H) gMax2 := fun I C μ H w xs as r q C' e Q k => by
  unfold gMax2 at e
  split at e
  · cases e
    cases r with
    | cons r1 r2 =>
      cases r2 with
      | cons r3 r4 =>
        cases r4
        exact ⟨_, _, by rw [rv_int r1, rv_int r3], k I μ H _ Le.refl w (Dq.int _)⟩
  · cases e
theorem rl_min2 {K : PySem.W.Frag} : RLK K (fun xs H Q => ∃ i j, xs = [.int i, .int j] ∧ Q (.int (if j < i then j else i)) H) gMin2 := fun I C μ H w xs as r q C' e Q k => by
  unfold gMin2 at e
  split at e
  · cases e
    cases r with
    | cons r1 r2 =>
      cases r2 with
      | cons r3 r4 =>
        cases r4
        exact ⟨_, _, by rw [rv_int r1, rv_int r3], k I μ H _ Le.refl w (Dq.int _)⟩
  · cases e
/-- tuple(x), list(x) -/
def gTuple (rs : List SV) (C : CS) : Option (SV × CS) := match rs with
  | [.d (.tuple xs)] => some (.d (.tuple xs), C)
  | [r] => (rdL r C).map fun xs => (.d (.tuple xs), C)
  | _ => none
abbrev rTupleOf (K : PySem.W.Frag) : List V → Hp → VK → Prop := rTupN K
theorem rl_tuple {K : PySem.W.Frag} : RLK K (rTupleOf K) gTuple := fun I C μ H w xs as r q C' e Q k => by
  unfold gTuple at e
  split at e
  · cases e
    cases r with
    | cons r1 r2 =>
      cases r2
      rename_i ys v
      have r1 : Dq K I v (.tuple ys) := r1
      cases r1 with
      | tup h t => exact ⟨_, _, rfl, .inr ⟨ex_t w.ex h.t, k I μ H _ Le.refl w (Dq.tup h t)⟩⟩
  · obtain ⟨ys, e1, e⟩ := Option.map_eq_some_iff.mp e
    cases e
    cases r with
    | cons r1 r2 =>
      cases r2
      obtain ⟨a, vs, rfl, h2, h3⟩ := rdL_ok w r1 e1
      refine ⟨a, vs, rfl, .inl ⟨h2, fun p ob hob hp => ?_⟩⟩
      obtain ⟨w3, l3, g3⟩ := w.newD (o := .frz ob (.tup vs)) hp
      exact k _ _ _ _ l3 w3 (Dq.tup (SqN.of hob g3) (h3.up l3.ex))
  · cases e
/-- isinstance(x, T) -/
def rIsiD (K : PySem.W.Frag) (T : String) (g : PyData → Bool) : List V → Hp → VK → Prop := fun xs H Q => ∃ x d, xs = [x, .ty T] ∧ Dq K H x d ∧ Q (.bl (g d)) H
theorem call_isiInt : CallR X (.builtin "isinstance") (rIsiD X.K "int" PyData.isInt) := by
  rintro pins s σ H xs us Q I r ⟨x, d, rfl, hd, q⟩
  obtain ⟨u1, u2, rfl, r1, r2⟩ := vals2 r
  cases r2
  obtain ⟨as, ra⟩ := hd.reads I r1
  exact PySem.W.isinstance_int_data ra fun tk _ => ⟨.bl _, H, I.tok _, rfl, q⟩
theorem call_isiBool : CallR X (.builtin "isinstance") (rIsiD X.K "bool" PyData.isBool) := by
  rintro pins s σ H xs us Q I r ⟨x, d, rfl, hd, q⟩
  obtain ⟨u1, u2, rfl, r1, r2⟩ := vals2 r
  cases r2
  obtain ⟨as, ra⟩ := hd.reads I r1
  exact PySem.W.isinstance_bool_data ra fun tk _ => ⟨.bl _, H, I.tok _, rfl, q⟩
theorem call_isiTuple : CallR X (.builtin "isinstance") (rIsiD X.K "tuple" PyData.isTuple) := by
  rintro pins s σ H xs us Q I r ⟨x, d, rfl, hd, q⟩
  obtain ⟨u1, u2, rfl, r1, r2⟩ := vals2 r
  cases r2
  obtain ⟨as, ra⟩ := hd.reads I r1
  exact PySem.W.isinstance_tuple_data ra fun tk _ => ⟨.bl _, H, I.tok _, rfl, q⟩
end
def dIsi (g : PyData → Bool) (fa : DE) : DE := fun ε C => (fa ε C).bind fun (r, C1) => (rdD r C1).map fun d => (.d (.bool (g d)), C1)
theorem se_isi {K : PySem.W.Frag} {T : String} {g : PyData → Bool} {ta : TE} {fa : DE} (h : SE K ta fa) : SE K (tCB (rIsiD K T g) (tCons ta (tCons (tC (.ty T)) tNil))) (dIsi g fa) := fun σ H ε C μ I w s r C' e Q q => by
  obtain ⟨⟨a, C1⟩, e1, e⟩ := Option.bind_eq_some_iff.mp e
  obtain ⟨d, e2, e⟩ := Option.map_eq_some_iff.mp e
  cases e
  exact h σ H ε C μ I w s a C' e1 _ fun J ν H1 x l1 w1 r1 => ⟨x, d, rfl, rdDq w1 r1 e2, q J ν H1 _ l1 w1 (Dq.bl _)⟩
end Dn
set_option Elab.async false
set_option linter.all false
set_option maxRecDepth 100000
namespace Dn
open PySem PySem.Spec PyProof.Rows L2
open Evl (Ex Ex.refl Ex.trans Ex.new fresh_back ex_l ex_t ex_rd)
/-! ### t[::-1] of a tuple -/
/-! ### two, three names at once -/
def dPar (i j : Nat) (fa : DA) : DS := fun ε C => (fa ε C).bind fun (rs, C1) => match rs with
  | [a, b] => some (.nx ((ε.set i (some a)).set j (some b)) C1)
  | _ => none
theorem ss_par {K : PySem.W.Frag} {i j : Nat} {ta : TA} {fa : DA} (h : SA K ta fa) : SS K (tPar i j ta) (dPar i j fa) := fun σ H ε C μ I w s o e D q => by
  obtain ⟨⟨rs, C1⟩, e1, e⟩ := Option.bind_eq_some_iff.mp e
  refine h σ H ε C μ I w s rs C1 e1 _ fun J ν H1 vs l1 w1 r1 => ?_
  simp only at e
  split at e
  · cases e
    cases r1 with
    | cons r1 r2 =>
      cases r2 with
      | cons r2 r3 =>
        cases r3
        exact ⟨_, _, rfl, q J ν H1 _ l1 w1 (((s.up l1).set r1 i).set r2 j)⟩
  · cases e
/-! ### dicts that are written out: {}, {0: 0} -/
/-! ### () * n -/
theorem tuple_mul0 (l : Addr) (n : Nat) (dd : Option Addr) (sl : Array (Option Value)) (x : Int) (u : Tok) (c0 : (decide (x < -(2 ^ 63)) || decide (x ≥ 2 ^ 63)) = false) :
    Meets (Builtin.«tuple.__mul__» ⟨[.ref l, .int x u], []⟩) (fun _ R s => s.heap.get? l = some { cls := .type "tuple", dict := dd, data := .seq #[] n, slots := sl } ∧ R (.ok (.ret (Value.ref l))) s) :=
  .of_wp fun prog w A R s h => by
    obtain ⟨hp, g, d, tk, os⟩ := s
    obtain ⟨hl, h⟩ := h
    have f1 := AutoSeq1.idx_int
    wp_walk using wpAny_loadPart' hl
    repeat (first
      | (refine wpAny_ite_false (decide_eq_false (by rw [c0]; exact Bool.false_ne_true)) ?_; wp_walk using wpAny_loadPart' hl)
      | (refine wpAny_ite_true (by simp) ?_; wp_walk using wpAny_loadPart' hl))
    all_goals first
      | exact ⟨_, rfl, h⟩
      | skip
def rRep0 (K : PySem.W.Frag) : R2 := fun x y H Q => ∃ l k, x = .ref l ∧ y = .int k ∧ SqT K H l [] ∧ -1000 ≤ k ∧ k ≤ 1000 ∧ Q (.ref l) H
theorem op_rep0 {X : Cx} : OpR X (binaryOp .Mult) (rRep0 X.K) := by
  rintro pins s σ H x y v u Q I rx ry ⟨l, k, rfl, rfl, hT, h1, h2, q⟩
  cases rx
  obtain ⟨t, rfl⟩ := ry
  obtain ⟨its, r, ⟨⟨cls, dd, data, sl⟩, ho, hc, n, hd⟩, hs⟩ := I.tuple hT
  simp only at hc hd
  subst hc hd
  cases r
  have c0 : (decide (k < -(2 ^ 63)) || decide (k ≥ 2 ^ 63)) = false := by
    rw [decide_eq_false (by omega), decide_eq_false (by omega)] <;> rfl
  refine wpAny_binaryOp_repeat_ref (T := "tuple") (U := "int") (by decide) ⟨_, ho, rfl⟩ (fun s' => typeIs_int s' k t) noFill_tuple_mul F.fills_int_mul F.slot_int_rmul repeat_tuple F.slot_int_index.lookup
    (call_meets F.slot_int_rmul (typeIs_int s k t) F.entry_int_rmul (F.args_int_rmul_2 _ _) (int_rmul_tuple k t l #[] n dd sl)
      ⟨ho, rfl, ⟨_, ho, rfl⟩, call_meets F.slot_tuple_mul ⟨_, ho, rfl⟩ F.entry_tuple_mul (F.args_tuple_mul_2 _ _) (tuple_mul0 l n dd sl k t c0) ⟨ho, ?_⟩⟩)
  exact ⟨.ref l, H, I, rfl, q⟩
def gMulT (a b : SV) (C : CS) : Option (SV × CS) := match a, b with
  | .d (.tuple []), .d (.int k) => if -1000 ≤ k ∧ k ≤ 1000 then some (.d (.tuple []), C) else none
  | a, b => gMul a b C
abbrev rMulT (K : PySem.W.Frag) : R2 := fun x y H Q => rRep0 K x y H Q ∨ rMulAll K x y H Q
theorem op_mulT {X : Cx} : OpR X (binaryOp .Mult) (rMulT X.K) := op_rep0.or op_mulAll
theorem rk_mulT {K : PySem.W.Frag} : R2K K (rMulT K) gMulT := fun I C μ H w x y a b ra rb q C' e Q k => by
  unfold gMulT at e
  split at e
  · rename_i kk
    split at e
    · rename_i hk
      cases e
      have h1 : Dq K I x (.tuple []) := ra
      cases h1 with
      | tup g1 t1 =>
        cases t1
        exact .inl ⟨_, kk, rfl, rv_int rb, ex_t w.ex g1.t, hk.1, hk.2, k I μ H _ Le.refl w ra⟩
    · cases e
  · exact .inr (rk_mul I C μ H w x y a b ra rb q C' e Q k)
end Dn
set_option Elab.async false
set_option linter.all false
set_option maxRecDepth 100000
namespace Dn
open PySem PySem.Spec PyProof.Rows L2
open Evl (Ex Ex.refl Ex.trans Ex.new fresh_back ex_l ex_t ex_rd)
/-! ### the end: a law whose function gives True at every script -/
/-- the law's function, at a script that is a list nobody changes -/
def Right (m : DF) : Prop := ∀ ns : List Int, ns.length ≤ 63 → ∃ D, m [.d (.list (ns.map .int))] [] = some (.d (.bool true), D)
theorem dq_ints {K : PySem.W.Frag} {I : Hp} : ∀ ns : List Int, DqAll K I (ns.map V.int) (ns.map PyData.int)
  | [] => .nil
  | n :: ns => .cons (.int n) (dq_ints ns)
theorem wc_start {K : PySem.W.Frag} {H : Hp} : WC K H [] [] H := ⟨Ex.refl H, rfl, List.nodup_nil, fun n xs e => by simp at e, fun a h => by simp at h⟩
theorem end_call {P : Program} {w : World} {K : PySem.W.Frag} {mg mb : Str → Option Value} {k : Nat} {fa a : Addr} {fd : FuncData} {x : Str} {m : DF} {t : Shared} {vs : List Value} {ns : List Int}
    (inK : K.In t.heap) (hm : t.heap.Ns mainGlobals mg) (hb : t.heap.Ns builtinsNs mb) (hbb : ∀ y : Str, y ≠ "__name__" → mb y = bootBuiltins y) (free : t.heap.NoLimit) (hg : t.gens = #[])
    (ha : t.heap.get? a = some { cls := .type "list", data := .seq vs.toArray }) (hi : IntsAre vs ns) (hn : ns.length ≤ 63) (hr : Room k callerA)
    (F : ∀ base : Heap, K.In base → base.Ns mainGlobals mg → FnD P w K mg base k fa fd [x] m) (bind : ∀ (s : Shared) (u : Value), BindsTo s fd ⟨[u], []⟩ [(x, u)]) (R : Right m) :
    codeAny (model P w) callerA (.call (.ref fa) ⟨[.ref a], []⟩) (fun r s' => r = .ok (.ret (.bool true)) ∧ OldK t.heap s'.heap ∧ s'.os = t.os ∧ AllBare s'.gens) t := by
  have rv := vals_ints hi
  have hlen := hi.length
  have small : (ns.map V.int).length ≤ sizeLine := by rw [List.length_map]; exact Nat.le_trans hn (by decide)
  obtain ⟨D, hD⟩ := R ns hn
  have run : ∀ H : Hp, Only H → SqL K H a (ns.map V.int) → HOk P w H t.heap → (∀ b, H b ≠ none → b = a) → (H a ≠ none → K.lookup a = none) →
      codeAny (model P w) callerA (.call (.ref fa) ⟨[.ref a], []⟩) (fun r s' => r = .ok (.ret (.bool true)) ∧ OldK t.heap s'.heap ∧ s'.os = t.os ∧ AllBare s'.gens) t := by
    intro H only seq ok one out
    have bare : ∀ {b : Addr} {o : Obj} {es : Array DictEntry} {ep : Nat}, t.heap.get? b = some o → o.data = .dict es ep → H b = none := by
      intro b o es ep e d
      cases q : H b with
      | none => rfl
      | some u =>
        obtain rfl : b = a := one b (by rw [q]; exact fun z => nomatch z)
        rw [ha] at e
        cases e
        cases d
    have ns' : ∀ {b : Addr} {mm : Str → Option Value}, t.heap.Ns b mm → (hidT t.heap H).Ns b mm := by
      rintro b mm ⟨o, es, ep, e, d, r⟩
      exact ⟨o, es, ep, hidT_get e (bare e d), d, r⟩
    have inB : K.In (hidT t.heap H) := by
      intro b o e
      refine hidT_get (inK b o e) ?_
      cases q : H b with
      | none => rfl
      | some u =>
        obtain rfl : b = a := one b (by rw [q]; exact fun z => nomatch z)
        rw [out (by rw [q]; exact fun z => nomatch z)] at e
        cases e
    have lim : (hidT t.heap H).NoLimit := by
      obtain ⟨mc, h1, h2⟩ := free
      exact ⟨mc, ns' h1, h2⟩
    have e0 : Env0 P w K mg (hidT t.heap H) callerA [] t H :=
      ⟨rfl, ⟨inB, ns' hm, ⟨mb, ns' hb, hbb⟩, lim⟩, fun b o e => of_hidT e, Nat.le_of_eq (hidT_size _ _), trivial, fun b z => (nomatch z), ok, .of_eq hg⟩
    refine codeAny_mono ((F _ inB (ns' hm)).go callerA [] t H ⟨[.ref a], []⟩ [.ref a] [.ref a] [.d (.list (ns.map .int))] H [] [] (.d (.bool true)) D (fun v _ => v = .bl true) hr rfl e0 (bind t (.ref a)) (.cons rfl .nil)
      wc_start (.cons (Dq.lst seq (dq_ints ns)) .nil) hD fun J ν G v _ _ q => rv_bool q) fun r s' h => ?_
    cases r with
    | error e => exact h.elim
    | ok fl =>
      cases fl with
      | next => exact h.elim
      | brk => exact h.elim
      | cont => exact h.elim
      | ret u =>
        obtain ⟨v, G, os, gens, un, ok', rel, rfl⟩ := h
        obtain rfl : u = Value.bool true := rel
        refine ⟨rfl, OldK.of_keep fun b o e => ?_, os, gens⟩
        cases q : H b with
        | none => exact un.keep b o e q (fun z => nomatch z) (fun z => nomatch z)
        | some u =>
          rcases only b with z | ⟨ob, xs, z⟩
          · rw [q] at z
            cases z
          · obtain ⟨e1, _⟩ := ok b _ z
            obtain ⟨e2, _⟩ := ok' b _ (un.frzs b ob _ z)
            rw [e] at e1
            cases e1
            exact e2
  cases hk : K.lookup a with
  | some o =>
    have e := inK a o hk
    rw [ha] at e
    cases e
    exact run (fun _ => none) (fun _ => .inl rfl) (.inr ⟨_, vs.toArray, _, hk, rfl, rfl, rfl, by rw [List.size_toArray, hlen]; exact Nat.le_trans hn (by decide), by simpa using rv⟩) (fun b u z => nomatch z) (fun b z => absurd rfl z) fun z => absurd rfl z
  | none =>
    let ob : Obj := { cls := .type "list", data := .seq vs.toArray }
    have at_ : ∀ {b : Addr} {u : HO}, (if b = a then some (HO.frz ob (.lst (ns.map V.int))) else none) = some u → b = a ∧ u = .frz ob (.lst (ns.map V.int)) := by
      intro b u z
      split at z
      · cases z
        exact ⟨‹_›, rfl⟩
      · cases z
    refine run (fun b => if b = a then some (.frz ob (.lst (ns.map V.int))) else none) (fun b => ?_) (.inl (.inr ⟨ob, if_pos rfl⟩)) (fun b u z => ?_) (fun b z => ?_) fun _ => hk
    · by_cases hb : b = a
      · exact .inr ⟨_, _, if_pos hb⟩
      · exact .inl (if_neg hb)
    · obtain ⟨rfl, rfl⟩ := at_ z
      exact ⟨ha, small, vs, _, rv, ha⟩
    · by_cases hb : b = a
      · exact hb
      · exact absurd (if_neg hb) z
theorem walk_D {l : PySem.W.OpenLaw} {k : Nat} {q : Program} {loose : List Str} {XP : (Str → Option Value) → Heap → Prop} {YP : World → Heap → Prop} {d : DefRec} {K : Params → PySem.W.Frag} {x : Str} {m : DF}
    (hn : l.most = some 63) (hdf : d.params.defaults = []) (hr : Room k callerA) (hY : ∀ (w : World) (h : Heap), YP w h → (K w.params).In h)
    (F : ∀ (w : World) (mg : Str → Option Value) (fa : Addr) (h : Heap), (K w.params).In h → h.Ns mainGlobals mg → mg d.name = some (.ref fa) →
      ∃ fd : FuncData, (∀ (s : Shared) (u : Value), BindsTo s fd ⟨[u], []⟩ [(x, u)]) ∧ ∀ base : Heap, (K w.params).In base → base.Ns mainGlobals mg → FnD l.prog w (K w.params) mg base k fa fd [x] m)
    (R : Right m) : PySem.W.WalkO q loose XP YP l.row.toRowW d [] (fun f vs => PySem.call f vs) := by
  refine Att.attach_call hn hdf fun w s₀ t mg mb fa o pm cd doc a vs ns G Y ho hd hcd hmg hobj hints hlen hg => ?_
  have inK := hY w _ Y
  obtain ⟨fd, bind, hF⟩ := F w mg fa _ inK G.T.g hmg
  exact end_call inK G.T.g G.T.b G.T.builtins G.T.nolimit hg hobj hints hlen hr hF bind R
end Dn
set_option Elab.async false
set_option linter.all false
set_option maxRecDepth 100000
namespace Dn
open PySem PySem.Spec PyProof.Rows L2
/-! ### reckoning with the functions -/
def Wo {α : Type} (o : Option α) (P : α → Prop) : Prop := ∃ x, o = some x ∧ P x
section
variable {α β : Type} {o : Option α} {x : α} {P : β → Prop} {Q : α → Prop}
@[simp] theorem wo_some : Wo (some x) Q ↔ Q x := ⟨fun ⟨y, e, h⟩ => by cases e; exact h, fun h => ⟨x, rfl, h⟩⟩
@[simp] theorem wo_none : Wo (none : Option α) Q ↔ False := ⟨fun ⟨y, e, h⟩ => (nomatch e), fun h => h.elim⟩
@[simp] theorem wo_bind {f : α → Option β} : Wo (o.bind f) P ↔ Wo o fun x => Wo (f x) P := by
  cases o <;> simp
@[simp] theorem wo_map {f : α → β} : Wo (o.map f) P ↔ Wo o fun x => P (f x) := by
  cases o <;> simp
@[simp] theorem wo_ite {c : Prop} [Decidable c] {a b : Option α} : Wo (if c then a else b) Q ↔ if c then Wo a Q else Wo b Q := by
  split <;> rfl
theorem Wo.mono {Q' : α → Prop} (h : Wo o Q) (k : ∀ x, Q x → Q' x) : Wo o Q' := let ⟨x, e, q⟩ := h; ⟨x, e, k x q⟩
theorem Wo.and {Q' : α → Prop} (h : Wo o Q) (k : Wo o Q') : Wo o fun x => Q x ∧ Q' x := by
  obtain ⟨x, e, q⟩ := h
  obtain ⟨y, e', q'⟩ := k
  rw [e] at e'
  cases e'
  exact ⟨x, e, q, q'⟩
end
section
variable {ε : Ev} {C : CS} {fa fb fc : DE} {t u : DT} {P : SV × CS → Prop} {Pt : Bool × CS → Prop} {Ps : DO → Prop} {Pa : List SV × CS → Prop} {g g' : SV → SV → CS → Option (SV × CS)} {g1 : SV → CS → Option (SV × CS)} {gl : List SV → CS → Option (SV × CS)} {f : DS} {k : DS} {a b : SV} {x y : PyData} {i j : Int} {fr : DA}
@[simp] theorem wo_c : Wo (dC x ε C) P ↔ P (.d x, C) := by simp [dC]
@[simp] theorem wo_op : Wo (dOp g fa fb ε C) P ↔ Wo (fa ε C) fun x => Wo (fb ε x.2) fun y => Wo (g x.1 y.1 y.2) P := by simp [dOp]
@[simp] theorem wo_un : Wo (dUn g1 fa ε C) P ↔ Wo (fa ε C) fun x => Wo (g1 x.1 x.2) P := by simp [dUn]
def asBool (x : SV × CS) (P : Bool × CS → Prop) : Prop := match x with
  | (.d (.bool b), C) => P (b, C)
  | _ => False
@[simp] theorem asBool_b {b : Bool} {P : Bool × CS → Prop} : asBool (.d (.bool b), C) P ↔ P (b, C) := Iff.rfl
theorem wo_test : Wo (dTest fa ε C) Pt ↔ Wo (fa ε C) fun x => asBool x Pt := by
  unfold dTest
  rw [wo_bind]
  constructor
  · rintro ⟨⟨r, D⟩, e, h⟩
    refine ⟨_, e, ?_⟩
    cases r with
    | c n => simp at h
    | g i j => simp at h
    | b n k => simp at h
    | d x => cases x <;> first | (simpa [asBool] using h) | (simp at h)
  · rintro ⟨⟨r, D⟩, e, h⟩
    refine ⟨_, e, ?_⟩
    cases r with
    | c n => simp [asBool] at h
    | g i j => simp [asBool] at h
    | b n k => simp [asBool] at h
    | d x => cases x <;> first | (simpa [asBool] using h) | (simp [asBool] at h)
@[simp] theorem wo_test' : Wo (dTest fa ε C) Pt ↔ Wo (fa ε C) fun x => asBool x Pt := wo_test
@[simp] theorem wo_and : Wo (dAnd t u ε C) Pt ↔ Wo (t ε C) fun x => if x.1 = true then Wo (u ε x.2) Pt else Pt (false, x.2) := by simp [dAnd]
@[simp] theorem wo_or : Wo (dOr t u ε C) Pt ↔ Wo (t ε C) fun x => if x.1 = true then Pt (true, x.2) else Wo (u ε x.2) Pt := by simp [dOr]
@[simp] theorem wo_not : Wo (dNot t ε C) Pt ↔ Wo (t ε C) fun x => Pt (!x.1, x.2) := by simp [dNot]
@[simp] theorem wo_andV : Wo (dAndV fa fb ε C) P ↔ Wo (fa ε C) fun x => asBool x fun y => if y.1 = true then Wo (fb ε y.2) P else P (.d (.bool false), y.2) := by simp [dAndV]
@[simp] theorem wo_orV : Wo (dOrV fa fb ε C) P ↔ Wo (fa ε C) fun x => asBool x fun y => if y.1 = true then P (.d (.bool true), y.2) else Wo (fb ε y.2) P := by simp [dOrV]
@[simp] theorem wo_notV : Wo (dNotV fa ε C) P ↔ Wo (fa ε C) fun x => asBool x fun y => P (.d (.bool !y.1), y.2) := by simp [dNotV]
@[simp] theorem wo_if : Wo (dIf t fa fb ε C) P ↔ Wo (t ε C) fun x => if x.1 = true then Wo (fa ε x.2) P else Wo (fb ε x.2) P := by simp [dIf]
@[simp] theorem wo_nil : Wo (dNil ε C) Pa ↔ Pa ([], C) := by simp [dNil]
@[simp] theorem wo_cons : Wo (dCons fa fr ε C) Pa ↔ Wo (fa ε C) fun x => Wo (fr ε x.2) fun y => Pa (x.1 :: y.1, y.2) := by simp [dCons]
@[simp] theorem wo_call : Wo (dCall gl fr ε C) P ↔ Wo (fr ε C) fun x => Wo (gl x.1 x.2) P := by simp [dCall]
@[simp] theorem wo_chain : Wo (dChain g g' fa fb fc ε C) P ↔ Wo (fa ε C) fun x => Wo (fb ε x.2) fun y => Wo (g x.1 y.1 y.2) fun q => asBool q fun z => if z.1 = true then Wo (fc ε z.2) fun c => Wo (g' y.1 c.1 c.2) P else P (.d (.bool false), z.2) := by
  unfold dChain
  simp only [wo_bind]
  refine exists_congr fun q => and_congr_right fun _ => exists_congr fun r => and_congr_right fun _ => exists_congr fun z => and_congr_right fun _ => ?_
  obtain ⟨v, D⟩ := z
  cases v with
  | c n => simp [asBool]
  | g i j => simp [asBool]
  | b n k => simp [asBool]
  | d x => cases x <;> simp [asBool]
@[simp] theorem wo_next : Wo (dNext ε C) Ps ↔ Ps (.nx ε C) := by simp [dNext]
@[simp] theorem wo_ret : Wo (dRet fa ε C) Ps ↔ Wo (fa ε C) fun x => Ps (.rt x.1 x.2) := by simp [dRet]
@[simp] theorem wo_retN : Wo (dRetN ε C) Ps ↔ Ps (.rt (.d .none) C) := by simp [dRetN]
@[simp] theorem wo_drop : Wo (dDrop fa ε C) Ps ↔ Wo (fa ε C) fun x => Ps (.nx ε x.2) := by simp [dDrop]
@[simp] theorem wo_ifS : Wo (dIfS t f k ε C) Ps ↔ Wo (t ε C) fun x => if x.1 = true then Wo (f ε x.2) Ps else Wo (k ε x.2) Ps := by simp [dIfS]
def onNext (k : DS) (Ps : DO → Prop) : DO → Prop
  | .nx e C => Wo (k e C) Ps
  | o => Ps o
@[simp] theorem onNext_nx {e : Ev} : onNext k Ps (.nx e C) ↔ Wo (k e C) Ps := Iff.rfl
@[simp] theorem onNext_rt {r : SV} : onNext k Ps (.rt r C) ↔ Ps (.rt r C) := Iff.rfl
@[simp] theorem onNext_bk {e : Ev} : onNext k Ps (.bk e C) ↔ Ps (.bk e C) := Iff.rfl
@[simp] theorem onNext_ct {e : Ev} : onNext k Ps (.ct e C) ↔ Ps (.ct e C) := Iff.rfl
@[simp] theorem wo_seq : Wo (dSeq f k ε C) Ps ↔ Wo (f ε C) (onNext k Ps) := by
  unfold dSeq
  rw [wo_bind]
  refine exists_congr fun o => and_congr_right fun _ => ?_
  cases o <;> simp
@[simp] theorem wo_asg {tg : DG} : Wo (dAsg fa tg ε C) Ps ↔ Wo (fa ε C) fun x => Wo (tg x.1 ε x.2) fun y => Ps (.nx y.1 y.2) := by simp [dAsg]
@[simp] theorem wo_name {n : Nat} {r : SV} {Q : Ev × CS → Prop} : Wo (dName n r ε C) Q ↔ Q (ε.set n (some r), C) := by simp [dName]
@[simp] theorem wo_tidy : Wo (dTidy fa ε C) P ↔ Wo (fa ε C) fun x => Wo (fin C.length x.1 x.2) P := by simp [dTidy]
@[simp] theorem wo_tidyT : Wo (dTidyT t ε C) Pt ↔ Wo (t ε C) fun x => Pt (x.1, x.2.take C.length) := by simp [dTidyT]
@[simp] theorem wo_finD {n : Nat} : Wo (fin n (.d x) C) P ↔ P (.d x, C.take n) := by simp [fin]
@[simp] theorem wo_gTup {n : Nat} {u : DGs} {xs : List PyData} {Q : Ev × CS → Prop} : Wo (dgTup n u (.d (.tuple xs)) ε C) Q ↔ xs.length = n ∧ Wo (u xs ε C) Q := by
  unfold dgTup
  simp only []
  split <;> simp_all
@[simp] theorem wo_gCons {tg : DG} {u : DGs} {xs : List PyData} {Q : Ev × CS → Prop} : Wo (dgCons tg u (x :: xs) ε C) Q ↔ Wo (tg (.d x) ε C) fun y => Wo (u xs y.1 y.2) Q := by simp [dgCons]
@[simp] theorem wo_gNil {Q : Ev × CS → Prop} : Wo (dgNil [] ε C) Q ↔ Q (ε, C) := by simp [dgNil]
/-- a def's end -/
def onEnd (k : Nat) (P : SV × CS → Prop) : DO → Prop
  | .rt r C => Wo (fin k r C) P
  | .nx _ C => P (.d .none, C.take k)
  | _ => False
@[simp] theorem onEnd_rt {n : Nat} {r : SV} : onEnd n P (.rt r C) ↔ Wo (fin n r C) P := Iff.rfl
@[simp] theorem onEnd_nx {n : Nat} {e : Ev} : onEnd n P (.nx e C) ↔ P (.d .none, C.take n) := Iff.rfl
theorem wo_run {n m : Nat} {rs : List SV} (h : rs.length = n) : Wo (runF n m f rs C) P ↔ Wo (f (rs.map some ++ List.replicate (m - n) none) C) (onEnd C.length P) := by
  unfold runF
  rw [if_pos h, wo_bind]
  refine exists_congr fun o => and_congr_right fun _ => ?_
  cases o <;> simp [onEnd]
theorem wo_run1 {m : Nat} : Wo (runF 1 m f [a] C) P ↔ Wo (f (some a :: List.replicate (m - 1) none) C) (onEnd C.length P) := wo_run rfl
theorem wo_run2 {m : Nat} : Wo (runF 2 m f [a, b] C) P ↔ Wo (f (some a :: some b :: List.replicate (m - 2) none) C) (onEnd C.length P) := wo_run rfl
theorem wo_run3 {m : Nat} {c : SV} : Wo (runF 3 m f [a, b, c] C) P ↔ Wo (f (some a :: some b :: some c :: List.replicate (m - 3) none) C) (onEnd C.length P) := wo_run rfl
/-! ### operations on what is known -/
@[simp] theorem wo_addI : Wo (gAdd (.d (.int i)) (.d (.int j)) C) P ↔ P (.d (.int (i + j)), C) := by simp [gAdd]
@[simp] theorem wo_addT {xs ys : List PyData} : Wo (gAdd (.d (.tuple xs)) (.d (.tuple ys)) C) P ↔ xs.length + ys.length ≤ 10000 ∧ P (.d (.tuple (xs ++ ys)), C) := by simp [gAdd]
@[simp] theorem wo_sub : Wo (gSub (.d (.int i)) (.d (.int j)) C) P ↔ P (.d (.int (i - j)), C) := by simp [gSub, gI]
@[simp] theorem wo_mod : Wo (gMod (.d (.int i)) (.d (.int j)) C) P ↔ 0 < j ∧ P (.d (.int (i % j)), C) := by simp [gMod, gI]
@[simp] theorem wo_div : Wo (gDiv (.d (.int i)) (.d (.int j)) C) P ↔ (0 < j ∧ j < 2 ^ 64) ∧ P (.d (.int (i / j)), C) := by simp [gDiv, gI]
@[simp] theorem wo_pow : Wo (gPow (.d (.int i)) (.d (.int j)) C) P ↔ (0 ≤ j ∧ j ≤ 1000 ∧ i.natAbs < 2 ^ 64) ∧ P (.d (.int (i ^ j.toNat)), C) := by simp [gPow, gI]
@[simp] theorem wo_lt : Wo (gLt (.d (.int i)) (.d (.int j)) C) P ↔ P (.d (.bool (decide (i < j))), C) := by simp [gLt, gI]
@[simp] theorem wo_le : Wo (gLe (.d (.int i)) (.d (.int j)) C) P ↔ P (.d (.bool (decide (i ≤ j))), C) := by simp [gLe, gI]
@[simp] theorem wo_gt : Wo (gGt (.d (.int i)) (.d (.int j)) C) P ↔ P (.d (.bool (decide (j < i))), C) := by simp [gGt, gI]
@[simp] theorem wo_ge : Wo (gGe (.d (.int i)) (.d (.int j)) C) P ↔ P (.d (.bool (decide (j ≤ i))), C) := by simp [gGe, gI]
@[simp] theorem wo_neg : Wo (gNeg (.d (.int i)) C) P ↔ P (.d (.int (-i)), C) := by simp [gNeg]
@[simp] theorem wo_mulI : Wo (gMulT (.d (.int i)) (.d (.int j)) C) P ↔ (i.natAbs < 2 ^ 64 ∨ j.natAbs < 2 ^ 64) ∧ P (.d (.int (i * j)), C) := by simp [gMulT, gMul]
@[simp] theorem wo_eqD : Wo (gEqP (.d x) (.d y) C) P ↔ fits x y = true ∧ P (.d (.bool (PyData.eqv x y)), C) := by simp [gEqP, rdD]
@[simp] theorem wo_neD : Wo (gNeP (.d x) (.d y) C) P ↔ fits x y = true ∧ P (.d (.bool !(PyData.eqv x y)), C) := by simp [gNeP, rdD]
@[simp] theorem fits_int : fits (.int i) (.int j) = true := by simp [fits, PyData.plain, PyData.depth]
@[simp] theorem eqv_int : PyData.eqv (.int i) (.int j) = decide (i = j) := by simp [PyData.eqv, Bool.beq_eq_decide_eq]
@[simp] theorem fits_str {i j : Str} : fits (.str i) (.str j) = true := by simp [fits, PyData.plain, PyData.depth]
@[simp] theorem eqv_str {i j : Str} : PyData.eqv (.str i) (.str j) = decide (i = j) := by simp [PyData.eqv, Bool.beq_eq_decide_eq]
@[simp] theorem wo_ixT {xs : List PyData} : Wo (gIx (.d (.tuple xs)) (.d (.int i)) C) P ↔ Wo (L2.atI xs i) fun x => P (.d x, C) := by simp [gIx, rdS]
@[simp] theorem wo_ixC {n : Nat} : Wo (gIx (.c n) (.d (.int i)) C) P ↔ Wo (cellAt C n) fun xs => Wo (L2.atI xs i) fun x => P (.d x, C) := by simp [gIx, rdS, rdL]
@[simp] theorem wo_ixL {xs : List PyData} : Wo (gIx (.d (.list xs)) (.d (.int i)) C) P ↔ Wo (L2.atI xs i) fun x => P (.d x, C) := by simp [gIx, rdS, rdL]
@[simp] theorem wo_look {F : PyData → Option PyData} : Wo (gLook F [.d x] C) P ↔ Wo (F x) fun e => flat e = true ∧ P (.d e, C) := by
  simp [gLook, rdD]
@[simp] theorem wo_lookC {F : PyData → Option PyData} {n : Nat} : Wo (gLook F [.c n] C) P ↔ Wo (cellAt C n) fun xs => Wo (F (.list xs)) fun e => flat e = true ∧ P (.d e, C) := by
  simp [gLook, rdD]
@[simp] theorem flat_int : flat (.int i) = true := rfl
@[simp] theorem flat_bool {b : Bool} : flat (.bool b) = true := rfl
@[simp] theorem flat_str {s : Str} : flat (.str s) = true := rfl
@[simp] theorem fLen_t {xs : List PyData} : fLen (.tuple xs) = some (.int xs.length) := rfl
@[simp] theorem fLen_l {xs : List PyData} : fLen (.list xs) = some (.int xs.length) := rfl
@[simp] theorem wo_isi {F : PyData → Bool} : Wo (dIsi F fa ε C) P ↔ Wo (fa ε C) fun a => Wo (rdD a.1 a.2) fun d => P (.d (.bool (F d)), a.2) := by simp [dIsi]
@[simp] theorem rdD_d : rdD (.d x) C = some x := rfl
@[simp] theorem wo_max2 : Wo (gMax2 [.d (.int i), .d (.int j)] C) P ↔ P (.d (.int (if j > i then j else i)), C) := by simp [gMax2]
@[simp] theorem wo_min2 : Wo (gMin2 [.d (.int i), .d (.int j)] C) P ↔ P (.d (.int (if j < i then j else i)), C) := by simp [gMin2]
@[simp] theorem frz_d : frz (.d x) C = some (x, C) := rfl
@[simp] theorem frzs_nil : frzs [] C = some ([], C) := rfl
@[simp] theorem frzs_cons {r : SV} {rs : List SV} : frzs (r :: rs) C = (frz r C).bind fun x => (frzs rs x.2).bind fun y => some (x.1 :: y.1, y.2) := rfl
theorem cellAt_app {C D : CS} {n : Nat} (h : n < C.length) : cellAt (C ++ D) n = cellAt C n := by
  unfold cellAt
  rw [List.getElem?_append_left h]
@[simp] theorem cellAt_end {xs : List PyData} : cellAt (C ++ [some xs]) C.length = some xs := by
  unfold cellAt
  simp
theorem cellAt_lt {n : Nat} {xs : List PyData} (h : cellAt C n = some xs) : n < C.length := (List.getElem?_eq_some_iff.mp (cellAt_of h)).1
theorem cellAt_set {n : Nat} {xs : List PyData} (h : n < C.length) : cellAt (C.set n (some xs)) n = some xs := by
  unfold cellAt
  rw [List.getElem?_set_self h]
  rfl
theorem cellAt_set_ne {n m : Nat} {o : Option (List PyData)} (h : n ≠ m) : cellAt (C.set n o) m = cellAt C m := by
  unfold cellAt
  rw [List.getElem?_set_ne h]
end
end Dn
set_option Elab.async false
set_option linter.all false
set_option maxRecDepth 100000
namespace Dn
open PySem PySem.Spec PyProof.Rows L2
/-! ### the pen -/
def pen (q : Int × Int × Int) : List PyData := [.int q.1, .int q.2.1, .int q.2.2]
def PenAt (C : CS) (n : Nat) : Prop := ∃ q, cellAt C n = some (pen q)
section
variable {C D G : CS} {n : Nat} {q p : Int × Int × Int} {x : Option (List PyData)}
theorem PenAt.lt (h : PenAt C n) : n < C.length := let ⟨_, e⟩ := h; cellAt_lt e
theorem PenAt.set (h : n < C.length) : PenAt (C.set n (some (pen q))) n := ⟨q, cellAt_set h⟩
theorem PenAt.app (h : PenAt C n) : PenAt (C ++ G) n := let ⟨q, e⟩ := h; ⟨q, by rw [cellAt_app (cellAt_lt e)]; exact e⟩
@[simp] theorem take_set : (C.set n x).take C.length = C.set n x := List.take_of_length_le (by simp)
@[simp] theorem take_app : (C ++ G).take C.length = C := by simp
@[simp] theorem take_set_app : (C.set n x ++ G).take C.length = C.set n x := by
  rw [List.take_append_of_le_length (by simp), take_set]
@[simp] theorem pen0 : L2.atI (pen q) 0 = some (.int q.1) := rfl
@[simp] theorem pen1 : L2.atI (pen q) 1 = some (.int q.2.1) := rfl
@[simp] theorem pen2 : L2.atI (pen q) 2 = some (.int q.2.2) := rfl
@[simp] theorem penIx0 : L2.ixN (pen q).length 0 = some 0 := rfl
@[simp] theorem penIx2 : L2.ixN (pen q).length 2 = some 2 := rfl
@[simp] theorem penSet0 {z : Int} : (pen q).set 0 (.int z) = pen (z, q.2.1, q.2.2) := rfl
@[simp] theorem penSet2 {z : Int} : (pen q).set 2 (.int z) = pen (q.1, q.2.1, z) := rfl
@[simp] theorem cellAt_set_end {xs : List PyData} : cellAt (C.set n x ++ [some xs]) C.length = some xs := by
  have := cellAt_end (C := C.set n x) (xs := xs)
  rwa [List.length_set] at this
@[simp] theorem cellAt_at0 {l : CS} : cellAt (C ++ l) C.length = cellAt l 0 := by
  unfold cellAt
  rw [List.getElem?_append_right (Nat.le_refl _), Nat.sub_self]
@[simp] theorem cellAt_at {l : CS} {k : Nat} : cellAt (C ++ l) (C.length + k) = cellAt l k := by
  unfold cellAt
  rw [List.getElem?_append_right (by omega), Nat.add_sub_cancel_left]
@[simp] theorem cellAt_hd {l : CS} {o : Option (List PyData)} : cellAt (o :: l) 0 = o := by simp [cellAt]
@[simp] theorem cellAt_tl {l : CS} {o : Option (List PyData)} {k : Nat} : cellAt (o :: l) (k + 1) = cellAt l k := by simp [cellAt]
@[simp] theorem cellAt_atS0 {l : CS} : cellAt (C.set n x ++ l) C.length = cellAt l 0 := by
  have := cellAt_at0 (C := C.set n x) (l := l)
  rwa [List.length_set] at this
@[simp] theorem cellAt_atS {l : CS} {k : Nat} : cellAt (C.set n x ++ l) (C.length + k) = cellAt l k := by
  have := cellAt_at (C := C.set n x) (l := l) (k := k)
  rwa [List.length_set] at this
@[simp] theorem set_at0 {l : CS} {o : Option (List PyData)} : (C ++ l).set C.length o = C ++ l.set 0 o := by
  rw [List.set_append_right _ _ (Nat.le_refl _), Nat.sub_self]
@[simp] theorem set_at {l : CS} {k : Nat} {o : Option (List PyData)} : (C ++ l).set (C.length + k) o = C ++ l.set k o := by
  rw [List.set_append_right _ _ (by omega), Nat.add_sub_cancel_left]
@[simp] theorem take_at {l : CS} {k : Nat} : (C ++ l).take (C.length + k) = C ++ l.take k := by
  rw [List.take_append]
  simp
  rw [List.take_of_length_le (by omega)]
@[simp] theorem frz_c {m : Nat} : frz (.c m) C = (cellAt C m).map fun xs => (.list xs, C.set m none) := rfl
@[simp] theorem wo_addC {a b : Nat} {P : SV × CS → Prop} : Wo (gAdd (.c a) (.c b) C) P ↔ Wo (cellAt C a) fun xs => Wo (cellAt C b) fun ys => xs.length + ys.length ≤ 10000 ∧ P (.c C.length, C ++ [some (xs ++ ys)]) := by
  simp only [gAdd, wo_bind, wo_ite, wo_some, wo_none]
  refine exists_congr fun o => and_congr_right fun _ => exists_congr fun o => and_congr_right fun _ => ?_
  simp only []
  split
  · simp_all
  · simp
    intro h
    omega
/-- a place that is there, in a written list -/
theorem wo_at {xs : List PyData} {i : Int} {P : PyData → Prop} (h0 : 0 ≤ i) (h1 : i < xs.length) (h : ∀ x, xs[i.toNat]? = some x → P x) : Wo (L2.atI xs i) P := by
  have hi : i.toNat < xs.length := by omega
  refine ⟨xs[i.toNat], ?_, h _ (List.getElem?_eq_getElem hi)⟩
  have := L2.atI_nat (xs := xs) (j := i.toNat) (List.getElem?_eq_getElem hi)
  rw [show ((i.toNat : Nat) : Int) = i by omega] at this
  exact this
@[simp] theorem intsOf_of {ts : List Int} : intsOf (ts.map .int) = some ts := by
  induction ts with
  | nil => rfl
  | cons t ts ih => simp [intsOf, ih]
/-! ### loops -/
def onTurn (again : Ev → CS → Prop) (Ps : DO → Prop) : DO → Prop
  | .nx e C => again e C
  | .ct e C => again e C
  | .bk e C => Ps (.nx e C)
  | .rt r C => Ps (.rt r C)
@[simp] theorem onTurn_nx {A : Ev → CS → Prop} {Ps : DO → Prop} {e : Ev} : onTurn A Ps (.nx e C) ↔ A e C := Iff.rfl
@[simp] theorem onTurn_ct {A : Ev → CS → Prop} {Ps : DO → Prop} {e : Ev} : onTurn A Ps (.ct e C) ↔ A e C := Iff.rfl
@[simp] theorem onTurn_bk {A : Ev → CS → Prop} {Ps : DO → Prop} {e : Ev} : onTurn A Ps (.bk e C) ↔ Ps (.nx e C) := Iff.rfl
@[simp] theorem onTurn_rt {A : Ev → CS → Prop} {Ps : DO → Prop} {r : SV} : onTurn A Ps (.rt r C) ↔ Ps (.rt r C) := Iff.rfl
theorem wo_whN {t : DT} {body : DS} {m : Nat} {ε : Ev} {Ps : DO → Prop} : Wo (dWhN t body (m + 1) ε C) Ps ↔ Wo (t ε C) fun x => if x.1 = true then Wo (body ε x.2) (onTurn (fun e D => Wo (dWhN t body m e D) Ps) Ps) else Ps (.nx ε x.2) := by
  show Wo ((t ε C).bind _) Ps ↔ _
  rw [wo_bind]
  refine exists_congr fun x => and_congr_right fun _ => ?_
  obtain ⟨b, D⟩ := x
  cases b with
  | false => simp
  | true =>
    simp only [if_true]
    rw [wo_bind]
    refine exists_congr fun o => and_congr_right fun _ => ?_
    cases o <;> simp [onTurn]
theorem loop_ind {ps : List (Nat × List PyData)} {g : DG} {body : DS} {Ps : DO → Prop} (J : Ev → CS → Prop) (hp : ∀ ε C, J ε C → pinned ps C) (he : ∀ ε C, J ε C → Ps (.nx ε C)) :
    ∀ (items : List PyData) (ε : Ev) (C : CS), J ε C → (∀ x ∈ items, ∀ ε C, J ε C → Wo (g (.d x) ε C) fun y => Wo (body y.1 y.2) (onTurn J Ps)) → Wo (dLoop ps g body items ε C) Ps
  | [], ε, C, j, _ => by
    unfold dLoop
    rw [if_pos (hp ε C j)]
    simp
    exact he ε C j
  | x :: items, ε, C, j, h => by
    unfold dLoop
    rw [if_pos (hp ε C j), wo_bind]
    obtain ⟨⟨ε1, C1⟩, e1, k⟩ := h x List.mem_cons_self ε C j
    refine ⟨_, e1, ?_⟩
    show Wo ((body ε1 C1).bind _) Ps
    rw [wo_bind]
    obtain ⟨o, e2, k⟩ := k
    refine ⟨o, e2, ?_⟩
    have ih := fun e D (j : J e D) => loop_ind J hp he items e D j fun y hy => h y (List.mem_cons_of_mem _ hy)
    cases o with
    | nx e D => exact ih e D k
    | ct e D => exact ih e D k
    | bk e D => simpa using k
    | rt r D => simpa using k
theorem pin_nil {C : CS} : pinned [] C := fun p h => by simp at h
/-- a comprehension whose element is plain -/
theorem lc_plain {g : DG} {t : DT} {f : DE} {ε : Ev} {ps : List (Nat × List PyData)} {C0 : CS} (hp : ∀ D, pinned ps (C0 ++ D)) (Φ : PyData → Bool) (F : PyData → PyData) : ∀ (items acc : List PyData), acc.length + items.length ≤ 10000 →
    (∀ x ∈ items, ∀ D, ∃ ε1, g (.d x) ε D = some (ε1, D) ∧ t ε1 D = some (Φ x, D) ∧ (Φ x = true → ∃ G, f ε1 D = some (.d (F x), D ++ G))) →
    dLcL ps g t f C0.length items ε (C0 ++ [some acc]) = some (C0 ++ [some (acc ++ (items.filter Φ).map F)])
  | [], acc, hl, _ => by
    unfold dLcL
    rw [if_pos (hp _)]
    simp
  | x :: items, acc, hl, h => by
    simp only [List.length_cons] at hl
    unfold dLcL
    rw [if_pos (hp _)]
    obtain ⟨ε1, e1, e2, e3⟩ := h x List.mem_cons_self (C0 ++ [some acc])
    rw [e1]
    show (t ε1 (C0 ++ [some acc])).bind _ = _
    rw [e2]
    cases hx : Φ x with
    | false =>
      simp only [Option.bind_some]
      rw [if_neg (by simp), List.take_of_length_le (by simp), List.filter_cons_of_neg (by simp [hx])]
      exact lc_plain hp Φ F items acc (by omega) fun y hy => h y (List.mem_cons_of_mem _ hy)
    | true =>
      obtain ⟨G, e3⟩ := e3 hx
      simp only [Option.bind_some, if_true]
      rw [e3]
      simp only [Option.bind_some, frz_d]
      rw [cellAt_app (by simp), cellAt_end]
      simp only [Option.bind_some]
      rw [if_pos (by omega)]
      have e4 : ((C0 ++ [some acc] ++ G).set C0.length (some (acc ++ [F x]))).take (C0.length + 1) = C0 ++ [some (acc ++ [F x])] := by
        rw [List.append_assoc, List.set_append_right _ _ (by simp)]
        have : C0 ++ ([some acc] ++ G).set (C0.length - C0.length) (some (acc ++ [F x])) = (C0 ++ [some (acc ++ [F x])]) ++ G := by simp
        rw [this, List.take_append_of_le_length (by simp), List.take_of_length_le (by simp)]
      rw [e4, lc_plain hp Φ F items (acc ++ [F x]) (by simp; omega) fun y hy => h y (List.mem_cons_of_mem _ hy), List.filter_cons_of_pos (by simp [hx])]
      simp
theorem wo_finC {D : CS} {k m : Nat} {ys : List PyData} {P : SV × CS → Prop} (hm : m = D.length) (h : k ≤ D.length) : Wo (fin k (.c m) (D ++ [some ys])) P ↔ P (.c k, D.take k ++ [some ys]) := by
  subst hm
  unfold fin
  simp only []
  rw [if_neg (by omega), cellAt_end]
  simp
  rw [List.take_append_of_le_length h]
@[simp] theorem blsOf_map {α : Type} {Φ : α → Bool} {xs : List α} : blsOf (xs.map fun x => .bool (Φ x)) = some (xs.map Φ) := by
  induction xs with
  | nil => rfl
  | cons t ts ih => simp [blsOf, ih]
/-- a comprehension over data, plain, no test -/
theorem lcAll_eq {fi : DI} {ws : List Nat} {g : DG} {f : DE} {ε : Ev} {xs : List PyData} (F : PyData → PyData) (hi : fi ε C = some (⟨xs, []⟩, C)) (hl : xs.length ≤ 10000)
    (h : ∀ x ∈ xs, ∀ D, ∃ ε1, g (.d x) (wipeE ε ws) D = some (ε1, D) ∧ ∃ G, f ε1 D = some (.d (F x), D ++ G)) : dLc fi ws g dYes f ε C = some (.c C.length, C ++ [some (xs.map F)]) := by
  unfold dLc
  rw [hi]
  show ((dLcL [] g dYes f C.length xs (wipeE ε ws) (C ++ [some []])).map fun C2 => (SV.c C.length, C2)) = _
  rw [lc_plain (ps := []) (fun D => pin_nil) (fun _ => true) F xs [] (by simpa using hl) fun x hx D => by
    obtain ⟨ε1, e1, G, e2⟩ := h x hx D
    exact ⟨ε1, e1, rfl, fun _ => ⟨G, e2⟩⟩]
  rw [List.filter_eq_self.mpr fun _ _ => rfl]
  simp
/-- what is reckoned is one thing -/
theorem eq_of_wo {α : Type} {o : Option α} {x : α} (h : Wo o fun y => y = x) : o = some x := by
  obtain ⟨y, e, rfl⟩ := h
  exact e
end
end Dn
set_option Elab.async false
set_option linter.all false
set_option maxRecDepth 100000
namespace Dn
open PySem PySem.Spec PyProof.Rows L2
/-! ### data that are short enough to be shown -/
mutual
def tame (M : Int) : PyData → Bool
  | .int i => decide (-M ≤ i) && decide (i ≤ M)
  | .str x => (decide (x = ("" : Str)) || decide (x = ("house" : Str))) || (decide (x = ("0" : Str)) || decide (x = ("0:0" : Str)))
  | .list xs => tames M xs
  | .tuple xs => tames M xs
  | .dict kvs => tameKv M kvs
  | _ => true
def tames (M : Int) : List PyData → Bool
  | [] => true
  | x :: xs => tame M x && tames M xs
def tameKv (M : Int) : List (PyData × PyData) → Bool
  | [] => true
  | (k, x) :: xs => (tame M k && tame M x) && tameKv M xs
end
theorem tames_iff {M : Int} : ∀ {xs : List PyData}, tames M xs = true ↔ ∀ x ∈ xs, tame M x = true
  | [] => by simp [tames]
  | x :: xs => by simp [tames, tames_iff (xs := xs)]
theorem noLists_iff : ∀ {xs : List PyData}, noListsAll xs = true ↔ ∀ x ∈ xs, noLists x = true
  | [] => by simp [noListsAll]
  | x :: xs => by simp [noListsAll, noLists_iff (xs := xs)]
theorem noDict_iff : ∀ {xs : List PyData}, PyData.hasDictAll xs = false ↔ ∀ x ∈ xs, x.hasDict = false
  | [] => by simp [PyData.hasDictAll]
  | x :: xs => by simp [PyData.hasDictAll, noDict_iff (xs := xs)]
theorem depth_iff {k : Nat} : ∀ {xs : List PyData}, PyData.depthAll xs ≤ k ↔ ∀ x ∈ xs, x.depth ≤ k
  | [] => by simp [PyData.depthAll]
  | x :: xs => by
    simp only [PyData.depthAll, List.mem_cons, forall_eq_or_imp, ← depth_iff (xs := xs)]
    omega
/-- no list and no dict in it -/
structure Pure (d : PyData) : Prop where
  tm : tame 1000000 d = true
  nl : noLists d = true
  nd : d.hasDict = false
theorem Pure.of {xs : List PyData} (h : ∀ x ∈ xs, Pure x) : Pure (.tuple xs) := by
  refine ⟨?_, ?_, ?_⟩
  · simp only [tame]; exact tames_iff.mpr fun x hx => (h x hx).tm
  · simp only [noLists]; exact noLists_iff.mpr fun x hx => (h x hx).nl
  · simp only [PyData.hasDict]; exact noDict_iff.mpr fun x hx => (h x hx).nd
/-- bent things: tame, one kind, of bounded bulk and depth -/
structure Bent (b k : Nat) (d : PyData) : Prop where
  tm : tame 1000000000000 d = true
  bk : d.bulk ≤ b
  dp : d.depth ≤ k
  kd : d.hasDict = false ∨ noLists d = true
theorem Bent.up {b b' k k' : Nat} {d : PyData} (h : Bent b k d) (hb : b ≤ b') (hk : k ≤ k') : Bent b' k' d := ⟨h.tm, Nat.le_trans h.bk hb, Nat.le_trans h.dp hk, h.kd⟩
mutual
theorem plain_of : ∀ {d : PyData}, d.hasDict = false → d.plain = true
  | .none, _ => rfl
  | .bool _, _ => rfl
  | .int _, _ => rfl
  | .str _, _ => rfl
  | .list xs, e => by
    simp only [PyData.hasDict] at e
    simp only [PyData.plain]
    exact plains_of e
  | .tuple xs, e => by
    simp only [PyData.hasDict] at e
    simp only [PyData.plain]
    exact plains_of e
  | .dict _, e => by simp [PyData.hasDict] at e
theorem plains_of : ∀ {xs : List PyData}, PyData.hasDictAll xs = false → PyData.plainAll xs = true
  | [], _ => rfl
  | x :: xs, e => by
    simp only [PyData.hasDictAll, Bool.or_eq_false_iff] at e
    simp only [PyData.plainAll, Bool.and_eq_true]
    exact ⟨plain_of e.1, plains_of e.2⟩
end
theorem eq_empty {xs : List PyData} (h : PyData.hasDict (.tuple xs) = false) : fits (.tuple xs) (.tuple []) = true ∧ PyData.eqv (.tuple xs) (.tuple []) = xs.isEmpty := by
  constructor
  · have := plain_of h
    simp only [fits, this]
    have e : (PyData.tuple []).depth = 1 := rfl
    have e2 : (PyData.tuple []).plain = true := rfl
    simp [e, e2]
    left
    omega
  · cases xs <;> simp [PyData.eqv, PyData.eqvAll]
end Dn
set_option Elab.async false
set_option linter.all false
set_option maxRecDepth 100000
namespace Dn
open PySem PySem.Spec PyProof.Rows L2
variable {C : CS} {ε : Ev} {P : SV × CS → Prop} {Ps : DO → Prop}
theorem wo_for {fi : DI} {g : DG} {body : DS} : Wo (dFor fi g body ε C) Ps ↔ Wo (fi ε C) fun y => Wo (dLoop y.1.pins g body y.1.items ε y.2) Ps := by
  unfold dFor
  rw [wo_bind]
theorem wo_iSeq {f : DE} {Q : ITD × CS → Prop} : Wo (diSeq f ε C) Q ↔ Wo (f ε C) fun x => Wo (rdS x.1 x.2) fun xs => Q (⟨xs, pinOf x.1 xs⟩, x.2) := by
  unfold diSeq
  rw [wo_bind]
  simp
theorem seq_of {f k : DS} (Q : Ev → CS → Prop) (h : Wo (f ε C) fun o => ∃ e D, o = .nx e D ∧ Q e D) (kk : ∀ e D, Q e D → Wo (k e D) Ps) : Wo (dSeq f k ε C) Ps := by
  rw [wo_seq]
  refine h.mono fun o => ?_
  rintro ⟨e, D, rfl, q⟩
  exact kk e D q
theorem PenAt.eq {n : Nat} (h : PenAt C n) : ∃ q, C = C.set n (some (pen q)) := by
  obtain ⟨q, e⟩ := h
  refine ⟨q, ?_⟩
  refine List.ext_getElem? fun j => ?_
  by_cases hj : n = j
  · subst hj
    rw [List.getElem?_set_self (cellAt_lt e), cellAt_of e]
  · rw [List.getElem?_set_ne hj]
end Dn
set_option Elab.async false
set_option linter.all false
set_option maxRecDepth 100000
namespace Dn
open PySem PySem.Spec PyProof.Rows L2 RZ
open Evl (Ex Ex.refl Ex.trans Ex.new fresh_back ex_l ex_t ex_rd)
/-! ### zip of lists and tuples, in any mix (true: a list) -/
def SqK (K : PySem.W.Frag) (H : Hp) : Bool → Addr → List V → Prop
  | true => SqL K H
  | false => SqT K H
def IterK (g : Heap) : Bool → Addr → Addr → Nat → Prop
  | true => g.IsListIter
  | false => g.IsTupleIter
def HasK (g : Heap) : Bool → Addr → Array Value → Prop
  | true => g.IsList
  | false => g.IsTuple
theorem IterK.keep {g g' : Heap} {k : Bool} {c a : Addr} {i : Nat} (h : IterK g k c a i) (m : ∀ o, g.get? c = some o → g'.get? c = some o) : IterK g' k c a i := by
  cases k with
  | true => exact Heap.IsListIter.at h m
  | false => exact Heap.IsTupleIter.at h m
theorem IterK.cell {g : Heap} {k : Bool} {c a : Addr} {i : Nat} (h : IterK g k c a i) : ∃ o, g.get? c = some o ∧ ∀ v, o.data ≠ .cell v := by
  cases k with
  | true =>
    obtain ⟨o, e, _, d⟩ := h
    exact ⟨o, e, fun v q => by rw [d] at q; cases q⟩
  | false =>
    obtain ⟨o, e, _, d⟩ := h
    exact ⟨o, e, fun v q => by rw [d] at q; cases q⟩
theorem draws_k {prog : Program} {w : World} {A : Around} (hh : A.handled = none) (k : Bool) (c a : Addr) (hn : a ≠ c) (us : Array Value) :
    Draws prog w A c [c, a] us.size (fun i v => us[i]? = some v) (fun i g => IterK g k c a i ∧ HasK g k a us) := by
  cases k with
  | true => exact Draws.list hh c a hn us
  | false => exact Draws.tuple hh c a hn us
theorem Inv_seqK {X : Cx} {pins : List (Addr × Obj)} {σ : L2.St} {H : Hp} {s : Shared} (I : Inv X pins σ H s) {k : Bool} {a : Addr} {xs : List V} (h : SqK X.K H k a xs) :
    ∃ us, Vals xs us ∧ HasK s.heap k a us.toArray ∧ a < s.heap.objs.size ∧ ∀ ys, SqK X.K H k a ys → ys = xs := by
  cases k with
  | true =>
    obtain ⟨us, rv, p, _⟩ := I.list h
    exact ⟨us, rv, p.isList, p.lt, fun ys hy => I.list_inj hy h⟩
  | false =>
    obtain ⟨us, rv, p, _⟩ := I.tuple h
    obtain ⟨o, ho, _⟩ := id p
    exact ⟨us, rv, p, Heap.lt_size ho, fun ys hy => I.tuple_inj hy h⟩
def ItzK (K : PySem.W.Frag) (ka kb : Bool) (a b : Addr) : It :=
  ⟨fun i H => ∃ (xs ys : List V) (x y : V), SqK K H ka a xs ∧ SqK K H kb b ys ∧ xs[i]? = some x ∧ ys[i]? = some y,
    fun i H v H' => ∃ (N : Addr) (ob : Obj) (x y : V), v = .ref N ∧ ob.dict = none ∧ H N = none ∧ H' = upd H N (.frz ob (.tup [x, y])) ∧ (∀ xs, SqK K H ka a xs → xs[i]? = some x) ∧ ∀ ys, SqK K H kb b ys → ys[i]? = some y,
    fun i H => ∃ xs ys : List V, SqK K H ka a xs ∧ SqK K H kb b ys ∧ i = min xs.length ys.length⟩
theorem in5 {c z p q i j : Addr} (h : c ∈ [z, p, q, i, j]) : c = z ∨ c = p ∨ c = q ∨ c = i ∨ c = j := by simpa using h
theorem turn_zipK {P : Program} {w : World} {K : PySem.W.Frag} {elts : List Expr} {kk : Nat} {tpos : Pos} {ka kb : Bool} {a b z p q i1 i2 : Addr} (S : ZipSep2 z p q i1 i2 [i1, a] [i2, b]) (ha : a ≠ i1) (hb : b ≠ i2) :
    Turn P w K (.Tuple elts kk tpos) (ItzK K ka kb a b) [z, p, q, i1, i2] z (fun i g => IsZip g z p q .none ∧ IsTupOf2 g p (.ref i1) (.ref i2) ∧ (∃ x y, IsTupOf2 g q x y) ∧ IterK g ka i1 a i ∧ IterK g kb i2 b i) where
  mem := by simp
  obj := fun i g st c hc => by
    obtain ⟨hz, hp, ⟨x, y, hq⟩, h1, h2⟩ := st
    rcases in5 hc with rfl | rfl | rfl | rfl | rfl
    · exact ⟨_, hz, fun v e => nomatch e⟩
    · exact ⟨_, hp, fun v e => nomatch e⟩
    · exact ⟨_, hq, fun v e => nomatch e⟩
    · exact h1.cell
    · exact h2.cell
  keep := fun i g g' st m => by
    obtain ⟨hz, hp, ⟨x, y, hq⟩, h1, h2⟩ := st
    exact ⟨m z (by simp) _ hz, m p (by simp) _ hp, ⟨x, y, m q (by simp) _ hq⟩, h1.keep fun o e => m i1 (by simp) o e, h2.keep fun o e => m i2 (by simp) o e⟩
  item := by
    intro X hP hw hK hc i pins s σ H E I hf st hg
    subst hP hw hK
    obtain ⟨hz, hp, ⟨x0, y0, hq⟩, h1, h2⟩ := st
    obtain ⟨xs, ys, x, y, sx, sy, ex, ey⟩ := hg
    obtain ⟨us, rx, px, _, jx⟩ := Inv_seqK I sx
    obtain ⟨vs, ry, py, _, jy⟩ := Inv_seqK I sy
    obtain ⟨u, eu, ru⟩ := rx.get ex
    obtain ⟨v, ev, rv⟩ := ry.get ey
    have lx : i < us.toArray.size := by simpa using (List.getElem?_eq_some_iff.mp eu).1
    have ly : i < vs.toArray.size := by simpa using (List.getElem?_eq_some_iff.mp ev).1
    have hlt : ∀ c ∈ [z, p, q, i1, i2], c < s.heap.objs.size := fun c hcm => by
      rcases in5 hcm with rfl | rfl | rfl | rfl | rfl
      · exact Heap.lt_size hz
      · exact Heap.lt_size hp
      · exact Heap.lt_size hq
      · obtain ⟨o, e, _⟩ := h1.cell; exact Heap.lt_size e
      · obtain ⟨o, e, _⟩ := h2.cell; exact Heap.lt_size e
    have hh : X.A.in1.handled = none := show X.A.handled = none from I.ok.hd hc
    refine wpAny_pyNext_zipD2_item S (draws_k hh ka i1 a ha us.toArray) (draws_k hh kb i2 b hb vs.toArray) hz hp hq ⟨h1, px⟩ ⟨h2, py⟩ lx ly fun u' v' g tk eu' ev' gz gq g1 g2 gT gs gk => ?_
    have eu2 : u' = u := by
      have h3 : us[i]? = some u' := by simpa using eu'
      rw [eu] at h3
      exact (Option.some.inj h3).symm
    have ev2 : v' = v := by
      have h3 : vs[i]? = some v' := by simpa using ev'
      rw [ev] at h3
      exact (Option.some.inj h3).symm
    subst eu2 ev2
    refine ⟨_, rfl, wpAny_letOwnedTupleGo_zip (s := { s with heap := g, toks := tk }) gz fun g' gz' sb => ?_⟩
    have zl := hlt z (by simp)
    have gT2 : g'.get? s.heap.objs.size = some { cls := .type "tuple", data := .seq #[u', v'] } := (sb.2 _ (Nat.ne_of_gt zl)).trans gT
    have new : ObjOk X.prog X.w (upd H s.heap.objs.size (.frz { cls := .type "tuple", data := .seq #[u', v'] } (.tup [x, y]))) g' s.heap.objs.size (.frz { cls := .type "tuple", data := .seq #[u', v'] } (.tup [x, y])) := ⟨gT2, by show 2 ≤ sizeLine; decide, [u', v'], .cons ru (.cons rv .nil), ⟨_, gT2, rfl, _, rfl⟩⟩
    have J : Inv X pins σ (upd H s.heap.objs.size (.frz { cls := .type "tuple", data := .seq #[u', v'] } (.tup [x, y]))) { s with heap := g', toks := tk } :=
      I.turnedNew (t' := tk) (ch := [z, p, q, i1, i2]) (fun c o hn e => (sb.2 c fun e' => hn (by simp [e'])).trans (gk c o (fun e' => hn (by simp [e'])) (fun e' => hn (by simp [e'])) (fun e' => hn (by simp [e'])) (fun e' => hn (by simp [e'])) e)) hf (Nat.le_refl _) new
    refine ⟨.ref s.heap.objs.size, _, J, rfl, ⟨_, _, x, y, rfl, rfl, I.hok.fresh (Nat.le_refl _), rfl, fun l hl => by rw [jx l hl]; exact ex, fun l hl => by rw [jy l hl]; exact ey⟩, ⟨gz', ?_, ⟨u', v', ?_⟩, ?_, ?_⟩, fun c hcm => ?_⟩
    · exact (sb.2 _ S.TIz).trans (gk _ _ S.TIz S.TITO S.TIi1 S.TIi2 hp)
    · exact (sb.2 _ S.TOz).trans gq
    · exact g1.1.keep fun o e => (sb.2 _ (Ne.symm S.zi1)).trans e
    · exact g2.1.keep fun o e => (sb.2 _ (Ne.symm S.zi2)).trans e
    · rw [upd_ne (Nat.ne_of_lt (hlt c hcm))]
      exact (hf c hcm).1
  done := by
    intro X hP hw hK hc i pins s σ H E I hf st hg
    subst hP hw hK
    obtain ⟨hz, hp, ⟨x0, y0, hq⟩, h1, h2⟩ := st
    obtain ⟨xs, ys, sx, sy, hend⟩ := hg
    obtain ⟨us, rx, px, _, jx⟩ := Inv_seqK I sx
    obtain ⟨vs, ry, py, _, jy⟩ := Inv_seqK I sy
    have lx := rx.length
    have ly := ry.length
    have hh : X.A.in1.handled = none := show X.A.handled = none from I.ok.hd hc
    exact wpAny_pyNext_zipD2_end S (draws_k hh ka i1 a ha us.toArray) (draws_k hh kb i2 b hb vs.toArray) hz hp hq ⟨h1, px⟩ ⟨h2, py⟩ (by simp; omega) (by simp; omega) (by simp; omega) fun g tk gk => ⟨rfl, I.turnedL (t' := tk) (ch := [z, p, q, i1, i2]) (fun c o hn e =>
      gk c o (fun e' => hn (by simp [e'])) (fun e' => hn (by simp [e'])) (fun e' => hn (by simp [e'])) (fun e' => hn (by simp [e'])) e) hf⟩
  self := fun A i s Q E st h => wpAny_pyIter_zip st.1 h
theorem begins_k (k : Bool) (a : Addr) (us : Array Value) : ∃ o, (∃ cl, o = { cls := cl, data := .fields #[.ref a, .int 0 0] }) ∧ Begins (.ref a) o (fun g => HasK g k a us) ∧ ∀ g c, g.get? c = some o → IterK g k c a 0 := by
  cases k with
  | true => exact ⟨_, ⟨_, rfl⟩, begins_list a us, fun g c e => ⟨_, e, rfl, rfl⟩⟩
  | false => exact ⟨_, ⟨_, rfl⟩, begins_tuple a us, fun g c e => ⟨_, e, rfl, rfl⟩⟩
def iZipK (K : PySem.W.Frag) (ta : TA) : TI := fun σ H R => ta σ H fun vs H1 => ∃ (ka kb : Bool) (a b : Addr) (xs ys : List V), vs = [.ref a, .ref b] ∧ SqK K H1 ka a xs ∧ SqK K H1 kb b ys ∧ R (ItzK K ka kb a b) H1
theorem pi_zipK {X : Cx} {e e2 : Expr} {ta : TA} {p pos tpos : Pos} {elts : List Expr} {kk : Nat} (hg : Gl X "zip") (hm : X.mg "zip" = none) (ha : PA X [e, e2] ta)
    (hs : starEach [e, e2] X.env = (false, eval e X.env) :: starEach [e2] X.env := by rfl) (hpl : (backTo pos (starEach [e2] X.env)).any (·.1) = false := by rfl) :
    PI X (.Tuple elts kk tpos) (.Call (.Name "zip" p) [e, e2] [] pos) (iZipK X.K ta) := by
  refine ⟨fun pins s σ H R I h => ?_⟩
  refine Call_ (ld_blt I hg hm PyProof.Rows.boot_zip (PyProof.Rows.callWith_type1 (thn (ha.run pos pins s σ H _ I h) fun us s1 ⟨vs, H1, J, r1, q1⟩ => ?_) hs hpl))
  obtain ⟨ka, kb, a, b, xs, ys, rfl, sx, sy, q1⟩ := q1
  cases r1 with
  | cons r rr =>
    cases rr with
    | cons r' rr =>
      cases rr
      cases r
      cases r'
      obtain ⟨us, rx, px, la, _⟩ := Inv_seqK J sx
      obtain ⟨ws, ry, py, lb, _⟩ := Inv_seqK J sy
      obtain ⟨oa, _, ba, ia⟩ := begins_k ka a us.toArray
      obtain ⟨ob, _, bb, ib⟩ := begins_k kb b ws.toArray
      refine zip_begins2 ba bb px py fun g gz gp gq ga gb gs gk => wpAny_pyIter_zip gz ?_
      have J2 : Inv X pins σ H1 { s1 with heap := g } := J.kept (t' := s1.toks) gk
      refine ⟨_, [s1.heap.objs.size + 4, s1.heap.objs.size + 2, s1.heap.objs.size + 3, s1.heap.objs.size, s1.heap.objs.size + 1], _, _, H1, rfl, J2, turn_zipK (ka := ka) (kb := kb) (a := a) (b := b) (zip_sep2 (fp1 := [a]) (fp2 := [b]) (fun c hc => by rw [List.mem_singleton.mp hc]; exact la) fun c hc => by rw [List.mem_singleton.mp hc]; exact lb) (Nat.ne_of_lt la) (Nat.ne_of_lt (Nat.lt_succ_of_lt lb)), ⟨gz, gp, ⟨_, _, gq⟩, ia _ _ ga, ib _ _ gb⟩, fun c hcm => ?_, q1⟩
      have hle : s1.heap.objs.size ≤ c := by
        rcases in5 hcm with rfl | rfl | rfl | rfl | rfl
        · exact Nat.le_add_right _ _
        · exact Nat.le_add_right _ _
        · exact Nat.le_add_right _ _
        · exact Nat.le_refl _
        · exact Nat.le_add_right _ _
      exact J.fpOk hle (J.hok.fresh hle)
set_option maxHeartbeats 1000000 in
/-- enumerate(v) where v's own iterator is the new object o -/
theorem enum_made {v : Value} {o : Obj} {St : Heap → Prop} (B : Begins v o St) :
    Meets (Builtin.«enumerate.__new__» ⟨[.type "enumerate", v], []⟩) (fun _ End z => St z.heap ∧
      End (.ok (.ret (.ref (z.heap.push o).objs.size))) { z with heap := (z.heap.push o).push { cls := .type "enumerate", data := .fields #[.none, .bool false, .ref z.heap.objs.size, rawInt 0, .none, .none] } }) := by
  refine .of_wp fun prog w A End z hz => ?_
  obtain ⟨heap, gens, depth, toks, world⟩ := z
  obtain ⟨hst, hend⟩ := hz
  have known := sub_enumerate
  have begin_ : ∀ {A' : Around} {F : Value → Shared → Prop} {G : Value → Shared → Prop}, G (.ref heap.objs.size) ⟨heap.push o, gens, depth, toks, world⟩ → wpAny (model prog w) A' (pyIter v) G F ⟨heap, gens, depth, toks, world⟩ := fun g => B.iter prog w _ _ ⟨heap, gens, depth, toks, world⟩ _ hst g
  wp_walk using begin_
  refine wpAny_stack_any fun stack => wpAny_pure ?_
  split
  · rename_i c _ _ _ _ _
    cases (c == Value.type "enumerate") <;> (wp_walk using begin_; exact ⟨_, rfl, hend⟩)
  · (wp_walk using begin_; exact ⟨_, rfl, hend⟩)
section
variable {prog : Program} {w : World} {A : Around} {E : Value → Shared → Prop} {z : Shared}
theorem enum_called {v : Value} {o : Obj} {St : Heap → Prop} {Q : Value → Shared → Prop} (B : Begins v o St) (hst : St z.heap)
    (k : ∀ h2, IsEnum h2 (z.heap.objs.size + 1) z.heap.objs.size 0 .none → h2.get? z.heap.objs.size = some o → (∀ b x, z.heap.get? b = some x → h2.get? b = some x) → Q (.ref (z.heap.objs.size + 1)) { z with heap := h2 }) :
    wpAny (model prog w) A (call (.type "enumerate") [v]) Q E z := by
  have size1 : (z.heap.push o).objs.size = z.heap.objs.size + 1 := Heap.size_push ..
  refine callType_new F.called_enumerate (by decide) (F.typeCall_enumerate_1 _) (F.newCall_enumerate_1 _) (fun x => F.args_object_init_2 x _) F.entry_enumerate_new (enum_made B) ⟨hst, ?_⟩
  rw [size1]
  have stands : IsEnum ((z.heap.push o).push { cls := .type "enumerate", data := .fields #[.none, .bool false, .ref z.heap.objs.size, rawInt 0, .none, .none] }) (z.heap.objs.size + 1) z.heap.objs.size 0 .none := by
    rw [← size1]
    exact Heap.get?_push_size (z.heap.push o) rfl
  exact ⟨⟨_, stands, rfl⟩, k _ stands (Heap.get?_push_of_some _ (Heap.get?_push_size _ B.free)) fun b x hx => Heap.get?_push_of_some _ (Heap.get?_push_of_some _ hx)⟩
theorem enum_over {e it t : Addr} {i : Nat} {xs : Array Value} {old : Value} {c : Int} {Q : Option Value → Shared → Prop} (calm : A.handled = none) (he : IsEnum z.heap e it c old) (hi : z.heap.IsTupleIter it t i) (ht : z.heap.IsTuple t xs) (none_ : xs[i]? = none)
    (k : ∀ h2, Heap.ExtBut it z.heap h2 → Q none { z with heap := h2 }) : wpAny (model prog w) A (pyNext (.ref e)) Q E z := by
  unfold pyNext
  refine wpAny_bind (wpAny_attempt (wpAny_callSpecial?_slot (name := Str.ofString "__next__") (T := "enumerate") ⟨_, he, rfl⟩ F.slot_enumerate_next (wpAny_call_entry F.slot_enumerate_next (T := "enumerate") ⟨_, he, rfl⟩ F.entry_enumerate_next ?_ (F.args_enumerate_next_1 _))))
  show wpAny _ _ (field (.ref e) 2 >>= _) _ _ z
  refine wpAny_bind (wpAny_field he rfl (x := .ref it) rfl (wpAny_bind (RZ.nextOf_tuple_end calm hi ht none_ ?_)))
  rintro h2 x grown ⟨ox, hox, cls⟩
  exact wpAny_bind (wpAny_isInstance (T := "StopIteration") (b := true) ⟨ox, hox, cls⟩ isSubtype_stop (wpAny_pure (k _ grown)))
end
/-- the list or tuple at a, each item in a new pair with its number -/
def IteK (K : PySem.W.Frag) (ka : Bool) (a : Addr) : It where
  go i H := ∃ (xs : List V) (x : V), SqK K H ka a xs ∧ xs[i]? = some x
  yld i H v H2 := ∃ N ob x, v = .ref N ∧ ob.dict = none ∧ H N = none ∧ H2 = upd H N (.frz ob (.tup [.int (i : Nat), x])) ∧ ∀ xs, SqK K H ka a xs → xs[i]? = some x
  stop i H := ∃ xs : List V, SqK K H ka a xs ∧ xs.length = i
theorem two_of {b e it : Addr} (h : b ∈ [e, it]) : b = e ∨ b = it := by simpa using h
theorem turn_enumK {P : Program} {w : World} {K : PySem.W.Frag} {elts : List Expr} {kk : Nat} {tpos : Pos} (ka : Bool) (a e it : Addr) (hai : a ≠ it) :
    Turn P w K (.Tuple elts kk tpos) (IteK K ka a) [e, it] e (fun i h => (∃ old, IsEnum h e it ((i : Nat) : Int) old) ∧ IterK h ka it a i ∧ e ≠ it) where
  mem := List.mem_cons_self
  obj := by
    rintro i h ⟨⟨old, ew⟩, iw, _⟩ b hb
    rcases two_of hb with rfl | rfl
    · exact ⟨_, ew, fun v q => nomatch q⟩
    · exact iw.cell
  keep := by
    rintro i h h2 ⟨⟨old, ew⟩, iw, ne⟩ k
    exact ⟨⟨old, k e (by simp) _ ew⟩, iw.keep (k it (by simp)), ne⟩
  item := by
    intro X hP hw hK hc i pins z σ H E I hf st hgo
    subst hP hw hK
    obtain ⟨⟨old, ew⟩, iw, ne⟩ := st
    obtain ⟨xs, x, hxs, hx⟩ := hgo
    obtain ⟨its, rel, has, a_old, one⟩ := Inv_seqK I hxs
    obtain ⟨u, hu, ru⟩ := rel.get hx
    have e_old : e < z.heap.objs.size := Heap.lt_size ew
    have it_old : it < z.heap.objs.size := let ⟨_, q, _⟩ := iw.cell; Heap.lt_size q
    have within : i < its.toArray.size := by simpa using (List.getElem?_eq_some_iff.mp hu).1
    by_cases hae : a = e
    · exfalso
      subst hae
      have nolist : ∀ k, HasK z.heap k a its.toArray → False := fun k hk => by
        cases k with
        | true => obtain ⟨o, h1, h2, _⟩ := hk; cases ew.symm.trans h1; simp at h2
        | false => obtain ⟨o, h1, h2, _⟩ := hk; cases ew.symm.trans h1; simp at h2
      exact nolist _ has
    refine wpAny_pyNext_enum_itemD (draws_k (prog := X.prog) (w := X.w) (A := X.A.in1) (show X.A.in1.handled = none from I.ok.hd hc) ka it a hai its.toArray) ew ⟨iw, has⟩ within ne (by simp [ne, Ne.symm hae]) ?_
    rintro y h2 tk hy out ⟨iw2, _⟩ pair size2 same
    obtain rfl : y = u := Option.some.inj ((show its[i]? = some y by simpa using hy).symm.trans hu)
    refine ⟨_, rfl, wpAny_letOwnedTupleGo_enum (s := { z with heap := h2, toks := tk + 1 }) out fun h3 ew3 but => ?_⟩
    have pair3 := (but.2 _ (Nat.ne_of_gt e_old)).trans pair
    have made : ObjOk X.prog X.w (upd H z.heap.objs.size (.frz { cls := .type "tuple", data := .seq #[.int i tk, y] } (.tup [.int (i : Nat), x]))) h3 z.heap.objs.size (.frz { cls := .type "tuple", data := .seq #[.int i tk, y] } (.tup [.int (i : Nat), x])) := ⟨pair3, by show 2 ≤ sizeLine; decide, [.int i tk, y], .cons ⟨_, rfl⟩ (.cons ru .nil), _, pair3, rfl, _, rfl⟩
    have I3 : Inv X pins σ (upd H z.heap.objs.size (.frz { cls := .type "tuple", data := .seq #[.int i tk, y] } (.tup [.int (i : Nat), x]))) { z with heap := h3, toks := tk + 1 } := I.turnedNew (ch := [e, it]) (fun b ob hb q => (but.2 b (by rintro rfl; exact hb (by simp))).trans (same b ob (by rintro rfl; exact hb (by simp)) (by rintro rfl; exact hb (by simp)) q)) hf (Nat.le_refl _) made
    refine ⟨.ref z.heap.objs.size, _, I3, rfl, ⟨_, _, x, rfl, rfl, I.hok.fresh (Nat.le_refl _), rfl, fun ys hy => by rwa [one ys hy]⟩, ⟨⟨y, by simpa using ew3⟩, iw2.keep fun o q => (but.2 it (Ne.symm ne)).trans q, ne⟩, fun b hb => ?_⟩
    rw [upd_ne ((two_of hb).elim (fun q => q ▸ Nat.ne_of_lt e_old) fun q => q ▸ Nat.ne_of_lt it_old)]
    exact (hf b hb).1
  done := by
    intro X hP hw hK hc i pins z σ H E I hf st hstop
    subst hP hw hK
    obtain ⟨⟨old, ew⟩, iw, ne⟩ := st
    obtain ⟨xs, hxs, hx⟩ := hstop
    obtain ⟨f0, f1, _, f3, f4, f5⟩ := hf it (by simp)
    cases ka with
    | true =>
      obtain ⟨its, rel, p, _⟩ := I.list hxs
      have len := rel.length
      exact wpAny_pyNext_enum_end (I.ok.hd hc) ew iw p.isList (by simp; omega) fun h' eb => ⟨rfl, I.turned (t' := z.toks) (fun b o hb q => eb b o hb q) f0 f1 f3 f4 f5⟩
    | false =>
      obtain ⟨its, rel, tup, _⟩ := I.tuple hxs
      have len := rel.length
      exact enum_over (I.ok.hd hc) ew iw (show z.heap.IsTuple a its.toArray from tup) (by simp; omega) fun h2 but => ⟨rfl, I.turned (t' := z.toks) (fun b o hb q => but b o hb q) f0 f1 f3 f4 f5⟩
  self := fun A i z Q E st k => let ⟨⟨_, ew⟩, _⟩ := st; wpAny_pyIter_enum ew k
def iEnumA (K : PySem.W.Frag) (ta : TA) : TI := fun σ H R => ta σ H fun vs H1 => ∃ ka a xs, vs = [.ref a] ∧ SqK K H1 ka a xs ∧ R (IteK K ka a) H1
theorem pi_enumA {X : Cx} {e : Expr} {ta : TA} {p pos tpos : Pos} {elts : List Expr} {kk : Nat} (hg : Gl X "enumerate") (hm : X.mg "enumerate" = none) (ha : PA X [e] ta) (lone : starEach [e] X.env = [(false, eval e X.env)] := by rfl) :
    PI X (.Tuple elts kk tpos) (.Call (.Name "enumerate" p) [e] [] pos) (iEnumA X.K ta) := by
  constructor
  intro pins z σ H R I h
  refine Call_ (ld_blt I hg hm boot_enumerate (PyProof.Rows.callWith_type1 (thn (ha.run pos pins z σ H _ I h) ?_) lone rfl))
  rintro us z1 ⟨vs, H1, I1, r1, ka, a, xs, rfl, hq, q⟩
  cases r1 with
  | cons r rest =>
    cases rest
    cases r
    have new2 : ∀ b, b ∈ [z1.heap.objs.size + 1, z1.heap.objs.size] → FpOk X pins H1 b := fun b hb => by
      have : z1.heap.objs.size ≤ b := by rcases two_of hb with rfl | rfl <;> omega
      exact I1.fpOk this (I1.hok.fresh this)
    obtain ⟨its, _, has, a_old, _⟩ := Inv_seqK I1 hq
    obtain ⟨o, _, beg, it0⟩ := begins_k ka a its.toArray
    exact enum_called beg has fun h2 ew iw same => wpAny_pyIter_enum ew ⟨z1.heap.objs.size + 1, [z1.heap.objs.size + 1, z1.heap.objs.size], _, _, H1, rfl, I1.kept (t' := z1.toks) same, turn_enumK ka a (z1.heap.objs.size + 1) z1.heap.objs.size (Nat.ne_of_lt a_old), ⟨⟨.none, ew⟩, it0 _ _ iw, Nat.succ_ne_self _⟩, new2, q⟩
end Dn
set_option Elab.async false
set_option linter.all false
set_option maxRecDepth 100000
namespace Dn
open PySem PySem.Spec PyProof.Rows L2
open Evl (Ex Ex.refl Ex.trans Ex.new fresh_back ex_l ex_t ex_rd)
section
variable {K : PySem.W.Frag} {I J : Hp} {μ ν : List Addr} {C C1 : CS} {H H1 : Hp} {v : V} {r : SV} {xs : List PyData}
theorem keepL (w1 : WC K J C1 ν H1) (r1 : RV K J ν v r) (e2 : rdL r C1 = some xs) : ∃ a, v = .ref a ∧ (∃ us, SqL K H1 a us) ∧ ∀ L ξ C2 H2, Le J ν L ξ → WC K L C2 ξ H2 → pinned (pinOf r xs) C2 → ∃ us, SqL K H2 a us ∧ DqAll K L us xs := by
  cases r with
  | d x =>
    have rr : Dq K J v x := r1
    cases rr with
    | lst hh t =>
      cases e2
      exact ⟨_, rfl, ⟨_, ex_l w1.ex hh⟩, fun L ξ C2 H2 l w2 _ => ⟨_, ex_l (l.ex.trans w2.ex) hh, t.up l.ex⟩⟩
    | _ => cases e2
  | c n =>
    obtain ⟨b, us, hb, _, g3, g4⟩ := rdC_ok w1 r1 (cellAt_of e2)
    refine ⟨b, hb, ⟨us, .inl (.inl g3)⟩, fun L ξ C2 H2 l w2 p2 => ?_⟩
    have e3 := p2 (n, xs) (List.mem_singleton.mpr rfl)
    obtain ⟨b', us', hb', _, g3', g4'⟩ := rdC_ok w2 (RV.up l r1) (cellAt_of e3)
    cases hb.symm.trans hb'
    exact ⟨us', .inl (.inl g3'), g4'⟩
  | g i j => cases e2
  | b n k => cases e2
def rdT : SV → Option (List PyData)
  | .d (.tuple xs) => some xs
  | _ => none
theorem keepT (w1 : WC K J C1 ν H1) (r1 : RV K J ν v r) (e2 : rdT r = some xs) : ∃ a, v = .ref a ∧ (∃ us, SqT K H1 a us) ∧ ∀ L ξ C2 H2, Le J ν L ξ → WC K L C2 ξ H2 → ∃ us, SqT K H2 a us ∧ DqAll K L us xs := by
  cases r with
  | d x =>
    have rr : Dq K J v x := r1
    cases rr with
    | tup hh t =>
      cases e2
      exact ⟨_, rfl, ⟨_, ex_t w1.ex hh.t⟩, fun L ξ C2 H2 l w2 => ⟨_, ex_t (l.ex.trans w2.ex) hh.t, t.up l.ex⟩⟩
    | _ => cases e2
  | c n => cases e2
  | g i j => cases e2
  | b n k => cases e2
/-- zip of two lists, or of two tuples -/
def dIZip (fa : DA) : DI := fun ε C => (fa ε C).bind fun (rs, C1) => match rs with
  | [a, b] => match rdT a with
    | some xs => (rdT b).map fun ys => (⟨(xs.zip ys).map fun p => .tuple [p.1, p.2], []⟩, C1)
    | none => (rdL a C1).bind fun xs => (rdL b C1).map fun ys => (⟨(xs.zip ys).map fun p => .tuple [p.1, p.2], pinOf a xs ++ pinOf b ys⟩, C1)
  | _ => none
theorem zip_at {xs ys : List PyData} {i : Nat} {x : PyData} (h : ((xs.zip ys).map fun p => PyData.tuple [p.1, p.2])[i]? = some x) : ∃ y z, xs[i]? = some y ∧ ys[i]? = some z ∧ x = .tuple [y, z] := by
  rw [List.getElem?_map] at h
  obtain ⟨⟨y, z⟩, h1, rfl⟩ := Option.map_eq_some_iff.mp h
  obtain ⟨h2, h3⟩ := List.getElem?_zip_eq_some.mp h1
  exact ⟨y, z, h2, h3, rfl⟩
theorem si_zip {ta : TA} {fa : DA} (h : SA K ta fa) : SI K (iZipK K ta) (dIZip fa) := fun σ H ε C μ I w s it C' e R q => by
  obtain ⟨⟨rs, C1⟩, e1, e⟩ := Option.bind_eq_some_iff.mp e
  refine h σ H ε C μ I w s rs C1 e1 _ fun J ν H1 vs l1 w1 r1 => ?_
  simp only at e
  split at e
  · rename_i a b
    cases r1 with
    | cons ra r3 =>
      cases r3 with
      | cons rb r5 =>
        cases r5
        split at e
        · rename_i xs ea
          obtain ⟨ys, eb, e⟩ := Option.map_eq_some_iff.mp e
          cases e
          obtain ⟨p, rfl, ⟨us, hu⟩, ka⟩ := keepT w1 ra ea
          obtain ⟨p', rfl, ⟨us', hu'⟩, kb⟩ := keepT w1 rb eb
          refine ⟨false, false, p, p', us, us', rfl, hu, hu', q J ν H1 _ l1 w1 fun L ξ C2 H2 l w2 p2 => ?_⟩
          obtain ⟨ua, ga, da⟩ := ka L ξ C2 H2 l w2
          obtain ⟨ub, gb, db⟩ := kb L ξ C2 H2 l w2
          refine ⟨fun i x hx => ?_, ⟨ua, ub, ga, gb, ?_⟩⟩
          · obtain ⟨y, z, hy, hz, rfl⟩ := zip_at hx
            obtain ⟨v, k1, k2⟩ := da.get hy
            obtain ⟨v', k1', k2'⟩ := db.get hz
            refine ⟨⟨ua, ub, v, v', ga, gb, k1, k1'⟩, fun vv H' y => ?_⟩
            obtain ⟨T, ob, x0, y0, rfl, hob, hT, rfl, hx0, hy0⟩ := y
            cases k1.symm.trans (hx0 _ ga)
            cases k1'.symm.trans (hy0 _ gb)
            obtain ⟨w3, l3, h3⟩ := w2.newD (o := .frz ob (.tup [v, v'])) hT
            exact ⟨_, l3, w3, Dq.tup (SqN.of hob h3) (.cons (k2.up l3.ex) (.cons (k2'.up l3.ex) .nil))⟩
          · rw [da.len, db.len]
            simp
        · obtain ⟨xs, ea, e⟩ := Option.bind_eq_some_iff.mp e
          obtain ⟨ys, eb, e⟩ := Option.map_eq_some_iff.mp e
          cases e
          obtain ⟨p, rfl, ⟨us, hu⟩, ka⟩ := keepL w1 ra ea
          obtain ⟨p', rfl, ⟨us', hu'⟩, kb⟩ := keepL w1 rb eb
          refine ⟨true, true, p, p', us, us', rfl, hu, hu', q J ν H1 _ l1 w1 fun L ξ C2 H2 l w2 p2 => ?_⟩
          obtain ⟨ua, ga, da⟩ := ka L ξ C2 H2 l w2 fun p hp => p2 p (List.mem_append_left _ hp)
          obtain ⟨ub, gb, db⟩ := kb L ξ C2 H2 l w2 fun p hp => p2 p (List.mem_append_right _ hp)
          refine ⟨fun i x hx => ?_, ⟨ua, ub, ga, gb, ?_⟩⟩
          · obtain ⟨y, z, hy, hz, rfl⟩ := zip_at hx
            obtain ⟨v, k1, k2⟩ := da.get hy
            obtain ⟨v', k1', k2'⟩ := db.get hz
            refine ⟨⟨ua, ub, v, v', ga, gb, k1, k1'⟩, fun vv H' y => ?_⟩
            obtain ⟨T, ob, x0, y0, rfl, hob, hT, rfl, hx0, hy0⟩ := y
            cases k1.symm.trans (hx0 _ ga)
            cases k1'.symm.trans (hy0 _ gb)
            obtain ⟨w3, l3, h3⟩ := w2.newD (o := .frz ob (.tup [v, v'])) hT
            exact ⟨_, l3, w3, Dq.tup (SqN.of hob h3) (.cons (k2.up l3.ex) (.cons (k2'.up l3.ex) .nil))⟩
          · rw [da.len, db.len]
            simp
  · cases e
end
end Dn
set_option Elab.async false
set_option linter.all false
set_option maxRecDepth 100000
namespace Dn
open PySem PySem.Spec PyProof.Rows L2
variable {C : CS} {P : SV × CS → Prop}
/-- tops as they are drawn -/
def Tops (ts : List Int) : Prop := 1 ≤ ts.length ∧ ts.length ≤ 7 ∧ ∀ t ∈ ts, 1 ≤ t ∧ t ≤ 1000000
def SmallCord (x : PyData) : Prop := ∃ a b c d e : Int, x = .tuple [.int a, .int b, .int c, .int d, .int e] ∧ (0 ≤ a ∧ a ≤ 1000000) ∧ (0 ≤ b ∧ b ≤ 1000000) ∧ (0 ≤ c ∧ c ≤ 1000000) ∧ (0 ≤ d ∧ d ≤ 1000000) ∧ 0 ≤ e ∧ e ≤ 1000000
theorem mem_ints {Φ : Int → Prop} : ∀ {ys : List PyData}, (∀ y ∈ ys, ∃ i, y = .int i ∧ Φ i) → ∃ ts : List Int, ys = ts.map .int ∧ ∀ t ∈ ts, Φ t
  | [], _ => ⟨[], rfl, fun t h => by simp at h⟩
  | y :: ys, h => by
    obtain ⟨i, rfl, hi⟩ := h y List.mem_cons_self
    obtain ⟨ts, rfl, ht⟩ := mem_ints (ys := ys) fun z hz => h z (List.mem_cons_of_mem _ hz)
    refine ⟨i :: ts, rfl, fun t h => ?_⟩
    rcases List.mem_cons.mp h with rfl | h
    · exact hi
    · exact ht t h
/-- a whole number within bounds -/
def wIn (d : PyData) (lo hi : Int) : Bool := match d with
  | .int i => decide (lo ≤ i) && decide (i ≤ hi)
  | _ => false
def topAt (ts : List Int) (x : PyData) : Int := match x with
  | .int i => ts.getD i.toNat 0
  | _ => 0
def isCord (ts : List Int) (d : PyData) : Bool := match d with
  | .tuple [a, b, c, d, e] => wIn a 0 (ts.length - 1) && (wIn b 1 (topAt ts a - 1) && (wIn c 0 (ts.length - 1) && (wIn d 1 (topAt ts c) && wIn e 1 1000000)))
  | _ => false
theorem at_top {ts : List Int} {a : PyData} (h : wIn a 0 (ts.length - 1) = true) : Wo (gIx (.d (.tuple (ts.map .int))) (.d a) C) P ↔ P (.d (.int (topAt ts a)), C) := by
  cases a <;> simp [wIn] at h
  rename_i i
  have hi : i.toNat < ts.length := by omega
  have e : L2.atI (ts.map PyData.int) i = some (.int (topAt ts (.int i))) := by
    have := L2.atI_nat (xs := ts.map PyData.int) (j := i.toNat) (v := .int (ts[i.toNat])) (by rw [List.getElem?_map, List.getElem?_eq_getElem hi]; rfl)
    rw [show ((i.toNat : Nat) : Int) = i by omega] at this
    rw [this]
    simp [topAt, List.getD_eq_getElem?_getD, hi]
  simp [e]
theorem five {xs : List PyData} (h : xs.length = 5) : ∃ a b c d e, xs = [a, b, c, d, e] := by
  match xs, h with
  | [a, b, c, d, e], _ => exact ⟨a, b, c, d, e, rfl⟩
theorem isCord_not5 {ts : List Int} {xs : List PyData} (h : xs.length ≠ 5) : isCord ts (.tuple xs) = false := by
  unfold isCord
  split
  · rename_i e
    cases e
    exact absurd rfl h
  · rfl
section
variable {a b c d e : PyData}
@[simp] theorem p0 : L2.atI [a, b, c, d, e] 0 = some a := rfl
@[simp] theorem p1 : L2.atI [a, b, c, d, e] 1 = some b := rfl
@[simp] theorem p2 : L2.atI [a, b, c, d, e] 2 = some c := rfl
@[simp] theorem p3 : L2.atI [a, b, c, d, e] 3 = some d := rfl
@[simp] theorem p4 : L2.atI [a, b, c, d, e] 4 = some e := rfl
@[simp] theorem r0 : L2.atI [a, b] 0 = some a := rfl
@[simp] theorem r1 : L2.atI [a, b] 1 = some b := rfl
end
def isTops (d : PyData) : Bool := match d with
  | .tuple xs => decide (1 ≤ xs.length) && decide (xs.length ≤ 7) && xs.all fun t => wIn t 1 1000000
  | _ => false
theorem tops_ints {xs : List PyData} (h : xs.all (fun t => wIn t 1 1000000) = true) : ∃ ts : List Int, xs = ts.map .int := by
  obtain ⟨ts, e, _⟩ := mem_ints (Φ := fun _ => True) (ys := xs) fun y hy => by
    have := List.all_eq_true.mp h y hy
    cases y <;> simp [wIn] at this
    exact ⟨_, rfl, trivial⟩
  exact ⟨ts, e⟩
def tsOf (d : PyData) : List Int := match d with
  | .tuple xs => (intsOf xs).getD []
  | _ => []
def isHouse (d : PyData) : Bool := match d with
  | .tuple [a, b] => isTops a && (match b with | .tuple cs => decide (cs.length ≤ 10) && cs.all (isCord (tsOf a)) | _ => false)
  | _ => false
theorem isHouse_not2 {xs : List PyData} (h : xs.length ≠ 2) : isHouse (.tuple xs) = false := by
  unfold isHouse
  split
  · rename_i e
    cases e
    exact absurd rfl h
  · rfl
theorem two {xs : List PyData} (h : xs.length = 2) : ∃ a b, xs = [a, b] := by
  match xs, h with
  | [a, b], _ => exact ⟨a, b, rfl⟩
theorem of_tops {a : PyData} (h : isTops a = true) : ∃ ts : List Int, a = .tuple (ts.map .int) ∧ tsOf a = ts := by
  cases a <;> simp [isTops] at h
  rename_i xs
  obtain ⟨ts, rfl⟩ := tops_ints (List.all_eq_true.mpr h.2)
  exact ⟨ts, rfl, by simp [tsOf]⟩
/-- a house as it is drawn -/
def Drawn (x : PyData) : Prop := ∃ ts cs, x = .tuple [.tuple (ts.map .int), .tuple cs] ∧ Tops ts ∧ cs.length ≤ 10 ∧ ∀ c ∈ cs, SmallCord c ∧ isCord ts c = true
theorem isTops_of {ts : List Int} (h : Tops ts) : isTops (.tuple (ts.map .int)) = true := by
  obtain ⟨h1, h2, h3⟩ := h
  simp only [isTops, List.length_map, Bool.and_eq_true, decide_eq_true_eq, List.all_eq_true]
  refine ⟨⟨h1, h2⟩, fun x hx => ?_⟩
  obtain ⟨i, hi, rfl⟩ := List.mem_map.mp hx
  have := h3 i hi
  simp [wIn]
  omega
theorem Drawn.house {x : PyData} (h : Drawn x) : isHouse x = true := by
  obtain ⟨ts, cs, rfl, ht, hc, hcs⟩ := h
  simp only [isHouse, isTops_of ht, Bool.true_and, Bool.and_eq_true, decide_eq_true_eq, List.all_eq_true]
  exact ⟨hc, fun x hx => by simpa [tsOf] using (hcs x hx).2⟩
end Dn
set_option Elab.async false
set_option linter.all false
set_option maxRecDepth 100000
namespace Dn
open PySem PySem.Spec PyProof.Rows L2
variable {C : CS} {ε : Ev} {P : SV × CS → Prop} {Ps : DO → Prop}
theorem mem_rng0 {x : PyData} {n : Nat} (h : x ∈ rng 0 n) : ∃ i : Int, x = .int i ∧ 0 ≤ i ∧ i < n := by
  simp only [rng, List.mem_map, List.mem_range] at h
  obtain ⟨i, hi, rfl⟩ := h
  exact ⟨_, rfl, by omega, by omega⟩
@[simp] theorem rng_len {a : Int} {n : Nat} : (rng a n).length = n := by simp [rng]
@[simp] theorem take_atS {n : Nat} {o : Option (List PyData)} {l : CS} {k : Nat} : (C.set n o ++ l).take (C.length + k) = C.set n o ++ l.take k := by
  have e : C.length = (C.set n o).length := by simp
  rw [e, List.take_append, List.take_of_length_le (by omega)]
  simp
end Dn
set_option Elab.async false
set_option linter.all false
set_option maxRecDepth 100000
namespace Dn
open PySem PySem.Spec PyProof.Rows L2
variable {C : CS} {ε : Ev} {P : SV × CS → Prop} {Ps : DO → Prop}
/-- data without dicts, of bounded bulk and depth -/
structure Okd (b k : Nat) (d : PyData) : Prop where
  tm : tame 1000000000000 d = true
  nd : d.hasDict = false
  bk : d.bulk ≤ b
  dp : d.depth ≤ k
theorem Okd.up {b k b' k' : Nat} {d : PyData} (h : Okd b k d) (hb : b ≤ b') (hk : k ≤ k') : Okd b' k' d := ⟨h.tm, h.nd, Nat.le_trans h.bk hb, Nat.le_trans h.dp hk⟩
theorem Okd.list {b k : Nat} {xs : List PyData} (h : Okd b k (.tuple xs)) : Okd b k (.list xs) := ⟨by simpa [tame] using h.tm, by simpa [PyData.hasDict] using h.nd, by simpa [PyData.bulk] using h.bk, by simpa [PyData.depth] using h.dp⟩
theorem all_cons {α : Type} {Q : α → Prop} {x : α} {xs : List α} (h : Q x) (t : ∀ y ∈ xs, Q y) : ∀ y ∈ x :: xs, Q y := by
  intro y hy
  rcases List.mem_cons.mp hy with rfl | hy
  · exact h
  · exact t y hy
end Dn
set_option Elab.async false
set_option linter.all false
set_option maxRecDepth 100000
namespace Dn
open PySem PySem.Spec PyProof.Rows L2
open Evl (Ex Ex.refl Ex.trans Ex.new fresh_back ex_l ex_t ex_rd)
/-! ### enumerate of a tuple -/
section
variable {K : PySem.W.Frag}
def pairs (xs : List PyData) : List PyData := xs.zipIdx.map fun p => .tuple [.int (p.2 : Nat), p.1]
def dIEnum (fa : DA) : DI := fun ε C => (fa ε C).bind fun (rs, C1) => match rs with
  | [a] => match rdT a with
    | some xs => some (⟨pairs xs, []⟩, C1)
    | none => (rdL a C1).map fun xs => (⟨pairs xs, pinOf a xs⟩, C1)
  | _ => none
theorem pairs_at {xs : List PyData} {i : Nat} {x : PyData} (h : (pairs xs)[i]? = some x) : ∃ y, xs[i]? = some y ∧ x = .tuple [.int (i : Nat), y] := by
  unfold pairs at h
  rw [List.getElem?_map] at h
  obtain ⟨⟨y, j⟩, h1, rfl⟩ := Option.map_eq_some_iff.mp h
  rw [List.getElem?_zipIdx] at h1
  obtain ⟨z, h2, h3⟩ := Option.map_eq_some_iff.mp h1
  cases h3
  exact ⟨_, h2, by simp⟩
@[simp] theorem pairs_len {xs : List PyData} : (pairs xs).length = xs.length := by simp [pairs]
theorem si_enum {ta : TA} {fa : DA} (h : SA K ta fa) : SI K (iEnumA K ta) (dIEnum fa) := fun σ H ε C μ I w s it C' e R q => by
  obtain ⟨⟨rs, C1⟩, e1, e⟩ := Option.bind_eq_some_iff.mp e
  refine h σ H ε C μ I w s rs C1 e1 _ fun J ν H1 vs l1 w1 r1 => ?_
  simp only at e
  split at e
  · rename_i a
    cases r1 with
    | cons ra r3 =>
      cases r3
      split at e
      · rename_i xs ea
        cases e
        obtain ⟨p, rfl, ⟨us, hu⟩, ka⟩ := keepT w1 ra ea
        refine ⟨false, p, us, rfl, hu, q J ν H1 _ l1 w1 fun L ξ C2 H2 l w2 p2 => ?_⟩
        obtain ⟨ua, ga, da⟩ := ka L ξ C2 H2 l w2
        refine ⟨fun i x hx => ?_, ⟨ua, ga, ?_⟩⟩
        · obtain ⟨y, hy, rfl⟩ := pairs_at hx
          obtain ⟨v, k1, k2⟩ := da.get hy
          refine ⟨⟨ua, v, ga, k1⟩, fun vv H' y => ?_⟩
          obtain ⟨T, ob, x0, rfl, hob, hT, rfl, hx0⟩ := y
          cases k1.symm.trans (hx0 _ ga)
          obtain ⟨w3, l3, h3⟩ := w2.newD (o := .frz ob (.tup [.int (i : Nat), v])) hT
          exact ⟨_, l3, w3, Dq.tup (SqN.of hob h3) (.cons (.int _) (.cons (k2.up l3.ex) .nil))⟩
        · rw [da.len]
          simp
      · obtain ⟨xs, ea, e⟩ := Option.map_eq_some_iff.mp e
        cases e
        obtain ⟨p, rfl, ⟨us, hu⟩, ka⟩ := keepL w1 ra ea
        refine ⟨true, p, us, rfl, hu, q J ν H1 _ l1 w1 fun L ξ C2 H2 l w2 p2 => ?_⟩
        obtain ⟨ua, ga, da⟩ := ka L ξ C2 H2 l w2 p2
        refine ⟨fun i x hx => ?_, ⟨ua, ga, ?_⟩⟩
        · obtain ⟨y, hy, rfl⟩ := pairs_at hx
          obtain ⟨v, k1, k2⟩ := da.get hy
          refine ⟨⟨ua, v, ga, k1⟩, fun vv H' y => ?_⟩
          obtain ⟨T, ob, x0, rfl, hob, hT, rfl, hx0⟩ := y
          cases k1.symm.trans (hx0 _ ga)
          obtain ⟨w3, l3, h3⟩ := w2.newD (o := .frz ob (.tup [.int (i : Nat), v])) hT
          exact ⟨_, l3, w3, Dq.tup (SqN.of hob h3) (.cons (.int _) (.cons (k2.up l3.ex) .nil))⟩
        · rw [da.len]
          simp
  · cases e
end
end Dn
set_option Elab.async false
set_option linter.all false
set_option maxRecDepth 100000
namespace Dn
open PySem PySem.Spec PyProof.Rows L2
open Evl (Ex Ex.refl Ex.trans Ex.new fresh_back ex_l ex_t ex_rd)
/-! ### sorted(xs) -/
def tupN : PyData → Bool
  | .tuple (_ :: _) => true
  | _ => false
def atomN : PyData → Bool
  | .none => false
  | .tuple _ => false
  | _ => true
/-- what can be sorted -/
def srtOk (ds : List PyData) : Prop := (∀ d ∈ ds, ∀ d' ∈ ds, PySem.W.alike d d' = true) ∧ ((∀ d ∈ ds, tupN d = true) ∨ ∀ d ∈ ds, atomN d = true) ∧ ds.length ≤ 10000 ∧ ∀ d ∈ ds, d.depth ≤ 40
instance {ds : List PyData} : Decidable (srtOk ds) := by
  unfold srtOk
  infer_instance
noncomputable def srt (ds : List PyData) : List PyData := ds.mergeSort (PySem.W.dataLe false id)
end Dn
set_option Elab.async false
set_option linter.all false
set_option maxRecDepth 100000
namespace Dn
open PySem PySem.Spec PyProof.Rows L2
open Evl (Ex Ex.refl Ex.trans Ex.new fresh_back ex_l ex_t ex_rd)
/-! ### truth of any data -/
def truD : PyData → Option Bool
  | .none => some false
  | .bool b => some b
  | .int i => some (i != 0)
  | .list xs => some (!xs.isEmpty)
  | .tuple xs => some (!xs.isEmpty)
  | _ => none
def dTru (f : DE) : DT := fun ε C => (f ε C).bind fun (r, C1) => match r with
  | .d x => (truD x).map fun b => (b, C1)
  | .c n => (cellAt C1 n).map fun xs => (!xs.isEmpty, C1)
  | .g _ _ => none
  | .b _ _ => none
def tTru (K : PySem.W.Frag) (t : TE) : TT := fun σ H Q => t σ H fun x H' => ∃ k, TruV K x H' k ∧ Q k H'
theorem empty_all {K : PySem.W.Frag} {I : Hp} : ∀ {vs : List V} {xs : List PyData}, DqAll K I vs xs → vs.isEmpty = xs.isEmpty
  | _, _, .nil => rfl
  | _, _, .cons _ _ => rfl
theorem st_tru {K : PySem.W.Frag} {te : TE} {f : DE} (h : SE K te f) : ST K (tTru K te) (dTru f) := fun σ H ε C μ I w s b C' e Q q => by
  obtain ⟨⟨r, C1⟩, e1, e⟩ := Option.bind_eq_some_iff.mp e
  refine h σ H ε C μ I w s r C1 e1 _ fun J ν H1 x l1 w1 r1 => ?_
  cases r with
  | d d =>
    obtain ⟨b', e2, e⟩ := Option.map_eq_some_iff.mp e
    cases e
    have rr : Dq K J x d := r1
    cases rr with
    | non => cases e2; exact ⟨_, rfl, q J ν H1 l1 w1⟩
    | bl b => cases e2; exact ⟨_, rfl, q J ν H1 l1 w1⟩
    | int i => cases e2; exact ⟨_, rfl, q J ν H1 l1 w1⟩
    | str => cases e2
    | lst hh t => cases e2; exact ⟨_, .inl ⟨_, ex_l w1.ex hh, by rw [empty_all t]⟩, q J ν H1 l1 w1⟩
    | tup hh t => cases e2; exact ⟨_, .inr (.inl ⟨_, ex_t w1.ex hh.t, by rw [empty_all t]⟩), q J ν H1 l1 w1⟩
    | dct => cases e2
  | c n =>
    obtain ⟨xs, e2, e⟩ := Option.map_eq_some_iff.mp e
    cases e
    obtain ⟨a, us, rfl, _, g3, g4⟩ := rdC_ok w1 r1 (cellAt_of e2)
    exact ⟨_, .inl ⟨us, .inl (.inl g3), by rw [empty_all g4]⟩, q J ν H1 l1 w1⟩
  | g i j => cases e
  | b n k => cases e
end Dn
set_option Elab.async false
set_option linter.all false
set_option maxRecDepth 100000
namespace Dn
open PySem PySem.Spec PyProof.Rows L2
open Evl (Ex Ex.refl Ex.trans Ex.new fresh_back ex_l ex_t ex_rd)
/-! ### min(xs, default=z) of a list of data that can be compared -/
def noneD : PyData → Bool
  | .none => true
  | _ => false
end Dn
set_option Elab.async false
set_option linter.all false
set_option maxRecDepth 100000
namespace Dn
open PySem PySem.Spec PyProof.Rows L2
open Evl (Ex Ex.refl Ex.trans Ex.new fresh_back ex_l ex_t ex_rd)
/-! ### a range that is kept under a name -/
end Dn
set_option Elab.async false
set_option linter.all false
set_option maxRecDepth 100000
namespace Dn
open PySem PySem.Spec PyProof.Rows L2
@[simp] theorem wo_isN {x : PyData} {C : CS} {P : SV × CS → Prop} : Wo (gIs (.d x) (.d .none) C) P ↔ P (.d (.bool (noneD x)), C) := by
  cases x <;> simp [gIs, noneD, isV]
@[simp] theorem wo_isntN {x : PyData} {C : CS} {P : SV × CS → Prop} : Wo (gIsnt (.d x) (.d .none) C) P ↔ P (.d (.bool !noneD x), C) := by
  cases x <;> simp [gIsnt, noneD, isV]
@[simp] theorem noneD_int {i : Int} : noneD (.int i) = false := rfl
@[simp] theorem noneD_none : noneD .none = true := rfl
theorem loop_nil {C : CS} {ε : Ev} {Ps : DO → Prop} {ps : List (Nat × List PyData)} {g : DG} {body : DS} (hp : pinned ps C) : Wo (dLoop ps g body [] ε C) Ps ↔ Ps (.nx ε C) := by
  unfold dLoop
  rw [if_pos hp]
  exact wo_some
theorem loop_cons {C : CS} {ε : Ev} {Ps : DO → Prop} {ps : List (Nat × List PyData)} {g : DG} {body : DS} {x : PyData} {xs : List PyData} (hp : pinned ps C) :
    Wo (dLoop ps g body (x :: xs) ε C) Ps ↔ Wo (g (.d x) ε C) fun y => Wo (body y.1 y.2) (onTurn (fun e D => Wo (dLoop ps g body xs e D) Ps) Ps) := by
  conv => lhs; unfold dLoop
  rw [if_pos hp, wo_bind]
  refine exists_congr fun y => and_congr_right fun _ => ?_
  obtain ⟨e, D⟩ := y
  show Wo ((body e D).bind _) Ps ↔ _
  rw [wo_bind]
  refine exists_congr fun o => and_congr_right fun _ => ?_
  cases o <;> simp
/-! ### tales, embers, catches, as the program reckons them -/
abbrev Setg := Int × Int × Option Int
abbrev Emb := Int × Int × Int
def optD : Option Int → PyData
  | none => .none
  | some i => .int i
def setD (s : Setg) : PyData := .tuple [.int s.1, .int s.2.1, optD s.2.2]
def flameStep (beat f : Int) (s : Setg) : Int := if s.1 ≤ beat then max 0 (s.2.1 - (beat - s.1)) else f
def flame (t : List Setg) (beat : Int) : Int := t.foldl (flameStep beat) 0
def catchOf : List Setg → Int → Option Int
  | [], _ => none
  | s :: t, a => if a ≤ s.2.1 ∧ (t = [] ∨ s.1 + s.2.1 - a < (t.headD s).1) then some (s.1 + s.2.1 - a) else catchOf t a
/-- one ember more comes to a tale -/
def taleStep (t : List Setg) (e : Emb) : List Setg := if t = [] ∨ e.2.1 < flame t e.1 then t ++ [(e.1, e.2.1, if e.2.2 = -1 then none else some e.2.2)] else t
def taleOf (es : List Emb) : List Setg := es.foldl taleStep []
abbrev Cord := Int × Int × Int × Int × Int
def cordD (c : Cord) : PyData := .tuple [.int c.1, .int c.2.1, .int c.2.2.1, .int c.2.2.2.1, .int c.2.2.2.2]
abbrev Lgt := Int × Int
def lgtD (l : Lgt) : PyData := .tuple [.int l.1, .int l.2]
def houseD (ts : List Int) (cs : List Cord) : PyData := .tuple [.tuple (ts.map .int), .tuple (cs.map cordD)]
end Dn
set_option linter.all false
namespace Hq
variable {α : Type} (lt : α → α → Bool)
def swp (xs : List α) (i j : Nat) : List α := match xs[i]?, xs[j]? with
  | some x, some y => (xs.set i y).set j x
  | _, _ => xs
def up : Nat → List α → Nat → Nat → List α
  | 0, xs, _, _ => xs
  | f + 1, xs, pos, top => if top < pos then match xs[pos]?, xs[(pos - 1) / 2]? with
      | some x, some p => if lt x p then up f (swp xs ((pos - 1) / 2) pos) ((pos - 1) / 2) top else xs
      | _, _ => xs
    else xs
def child (xs : List α) (pos : Nat) : Nat := match xs[2 * pos + 1]?, xs[2 * pos + 2]? with
  | some l, some r => if lt l r then 2 * pos + 1 else 2 * pos + 2
  | _, _ => 2 * pos + 1
def down : Nat → List α → Nat → Nat → List α
  | 0, xs, _, _ => xs
  | f + 1, xs, pos, top => if pos < xs.length / 2 then down f (swp xs (child lt xs pos) pos) (child lt xs pos) top else up lt (pos + 1) xs pos top
def sift (xs : List α) (pos : Nat) : List α := down lt (xs.length + 1) xs pos pos
def fixAll : Nat → List α → List α
  | 0, xs => xs
  | k + 1, xs => fixAll k (sift lt xs k)
def heapify (xs : List α) : List α := fixAll lt (xs.length / 2) xs
def push (xs : List α) (x : α) : List α := up lt (xs.length + 1) (xs ++ [x]) xs.length 0
def pop (xs : List α) : Option (α × List α) := match xs.getLast?, xs with
  | some last, first :: rest => if rest = [] then some (last, []) else some (first, sift lt (last :: rest.dropLast) 0)
  | _, _ => none
theorem swp_len {xs : List α} {i j : Nat} : (swp xs i j).length = xs.length := by
  unfold swp
  split <;> simp
theorem swp_get {xs : List α} {i j k : Nat} (hi : i < xs.length) (hj : j < xs.length) : (swp xs i j)[k]? = if k = j then xs[i]? else if k = i then xs[j]? else xs[k]? := by
  unfold swp
  rw [List.getElem?_eq_getElem hi, List.getElem?_eq_getElem hj]
  simp only [List.getElem?_set, List.length_set]
  by_cases h1 : k = j
  · subst h1
    simp [hj]
  · simp only [if_neg h1, if_neg (Ne.symm h1)]
    by_cases h2 : k = i
    · subst h2
      simp [hi]
    · simp only [if_neg h2, if_neg (Ne.symm h2)]
theorem swp_perm {xs : List α} {i j : Nat} : (swp xs i j).Perm xs := by
  unfold swp
  split
  · rename_i x y hx hy
    obtain ⟨hi, rfl⟩ := List.getElem?_eq_some_iff.mp hx
    obtain ⟨hj, rfl⟩ := List.getElem?_eq_some_iff.mp hy
    have := Array.swap_perm (xs := xs.toArray) (i := i) (j := j) (by simpa using hi) (by simpa using hj)
    have := Array.perm_iff_toList_perm.mp this
    simpa [Array.toList_swap] using this
  · exact .refl _
variable {lt}
def le (lt : α → α → Bool) (x y : α) : Prop := lt y x = false
structure Ord (lt : α → α → Bool) : Prop where
  asy : ∀ x y, lt x y = true → lt y x = false
  tr : ∀ x y z, le lt x y → le lt y z → le lt x z
theorem Ord.lt_le (O : Ord lt) {x y : α} (h : lt x y = true) : le lt x y := O.asy _ _ h
theorem Ord.rfl (O : Ord lt) {x : α} : le lt x x := by
  unfold le
  cases h : lt x x with
  | false => rfl
  | true =>
    have := O.asy _ _ h
    rw [h] at this
    exact this
theorem Ord.tot (O : Ord lt) {x y : α} (h : ¬ lt x y = true) : le lt y x := by
  unfold le
  simpa using h
/-- the parent's edge to c -/
def Edge (lt : α → α → Bool) (xs : List α) (p c : Nat) : Prop := ∀ x y, xs[p]? = some x → xs[c]? = some y → le lt x y
inductive Desc (s : Nat) : Nat → Prop
  | rfl : Desc s s
  | left {p : Nat} (h : Desc s p) : Desc s (2 * p + 1)
  | right {p : Nat} (h : Desc s p) : Desc s (2 * p + 2)
theorem Desc.ge {s p : Nat} (h : Desc s p) : s ≤ p := by
  induction h <;> omega
theorem Desc.par {s p : Nat} (h : Desc s p) (hne : p ≠ s) : Desc s ((p - 1) / 2) := by
  cases h with
  | rfl => exact (hne _root_.rfl).elim
  | left h =>
    rename_i q
    rw [show (2 * q + 1 - 1) / 2 = q from by omega]; exact h
  | right h =>
    rename_i q
    rw [show (2 * q + 2 - 1) / 2 = q from by omega]; exact h
/-- all edges from s on -/
def From (lt : α → α → Bool) (s : Nat) (xs : List α) : Prop := ∀ c, 1 ≤ c → s ≤ (c - 1) / 2 → Edge lt xs ((c - 1) / 2) c
theorem edge_swp {xs : List α} {i j p c : Nat} (hi : i < xs.length) (hj : j < xs.length) (hp : p ≠ i ∧ p ≠ j) (hc : c ≠ i ∧ c ≠ j) (h : Edge lt xs p c) : Edge lt (swp xs i j) p c := by
  intro x y hx hy
  rw [swp_get hi hj, if_neg hp.2, if_neg hp.1] at hx
  rw [swp_get hi hj, if_neg hc.2, if_neg hc.1] at hy
  exact h x y hx hy
theorem up_perm : ∀ (f : Nat) (xs : List α) (pos top : Nat), (up lt f xs pos top).Perm xs
  | 0, xs, _, _ => .refl _
  | f + 1, xs, pos, top => by
    unfold up
    split
    · split
      · split
        · exact (up_perm f _ _ _).trans swp_perm
        · exact .refl _
      · exact .refl _
    · exact .refl _
theorem down_perm : ∀ (f : Nat) (xs : List α) (pos top : Nat), (down lt f xs pos top).Perm xs
  | 0, xs, _, _ => .refl _
  | f + 1, xs, pos, top => by
    unfold down
    split
    · exact (down_perm f _ _ _).trans swp_perm
    · exact up_perm _ _ _ _
theorem up_ok (O : Ord lt) {s : Nat} : ∀ (f : Nat) (xs : List α) (pos : Nat), pos < f → pos < xs.length → Desc s pos → (∀ c, 1 ≤ c → s ≤ (c - 1) / 2 → c ≠ pos → Edge lt xs ((c - 1) / 2) c) →
    (pos ≠ s → ∀ c, 1 ≤ c → (c - 1) / 2 = pos → Edge lt xs ((pos - 1) / 2) c) → From lt s (up lt f xs pos s)
  | 0, _, _, h, _, _, _, _ => by omega
  | f + 1, xs, pos, hf, hp, hd, h1, h2 => by
    unfold up
    have hge := hd.ge
    split
    · rename_i hsp
      have hpar := hd.par (by omega)
      have hq : (pos - 1) / 2 < xs.length := by omega
      have hge2 := hpar.ge
      rw [List.getElem?_eq_getElem hp, List.getElem?_eq_getElem hq]
      simp only
      split
      · rename_i hlt
        have hne : (pos - 1) / 2 ≠ pos := by omega
        have edge : Edge lt xs ((pos - 1) / 2) pos → False := fun e => by
          have := e _ _ (List.getElem?_eq_getElem hq) (List.getElem?_eq_getElem hp)
          unfold le at this
          rw [this] at hlt
          cases hlt
        refine up_ok O f _ _ (by omega) (by rw [swp_len]; exact hq) hpar (fun c c1 cs cne => ?_) fun hne2 c c1 cp => ?_
        · by_cases e1 : c = pos
          · subst e1
            intro x y hx hy
            rw [swp_get hq hp, if_neg hne, if_pos rfl, List.getElem?_eq_getElem hp] at hx
            rw [swp_get hq hp, if_pos rfl, List.getElem?_eq_getElem hq] at hy
            cases hx
            cases hy
            exact O.lt_le hlt
          · by_cases e2 : (c - 1) / 2 = (pos - 1) / 2
            · intro x y hx hy
              rw [e2, swp_get hq hp, if_neg hne, if_pos rfl, List.getElem?_eq_getElem hp] at hx
              rw [swp_get hq hp, if_neg e1, if_neg cne] at hy
              cases hx
              exact O.tr _ _ _ (O.lt_le hlt) (h1 c c1 cs e1 _ _ (by rw [e2]; exact List.getElem?_eq_getElem hq) hy)
            · by_cases e3 : (c - 1) / 2 = pos
              · intro x y hx hy
                rw [e3, swp_get hq hp, if_pos rfl] at hx
                rw [swp_get hq hp, if_neg e1, if_neg cne] at hy
                exact h2 (by omega) c c1 e3 _ _ hx hy
              · exact edge_swp hq hp ⟨e2, e3⟩ ⟨cne, e1⟩ (h1 c c1 cs e1)
        · have hgp := hpar.par hne2
          have hge3 := hgp.ge
          have hqp : 1 ≤ (pos - 1) / 2 := by omega
          intro x y hx hy
          rw [swp_get hq hp, if_neg (by omega), if_neg (by omega)] at hx
          have hgx := h1 ((pos - 1) / 2) hqp (by omega) hne x _ hx (List.getElem?_eq_getElem hq)
          by_cases e1 : c = pos
          · subst e1
            rw [swp_get hq hp, if_pos rfl, List.getElem?_eq_getElem hq] at hy
            cases hy
            exact hgx
          · rw [swp_get hq hp, if_neg e1, if_neg (by omega)] at hy
            exact O.tr _ _ _ hgx (h1 c c1 (by omega) e1 _ _ (by rw [cp]; exact List.getElem?_eq_getElem hq) hy)
      · rename_i hlt
        intro c c1 cs
        by_cases e1 : c = pos
        · subst e1
          intro x y hx hy
          rw [List.getElem?_eq_getElem hq] at hx
          rw [List.getElem?_eq_getElem hp] at hy
          cases hx
          cases hy
          exact O.tot hlt
        · exact h1 c c1 cs e1
    · intro c c1 cs
      exact h1 c c1 cs (by omega)
theorem child_is {xs : List α} {pos : Nat} : child lt xs pos = 2 * pos + 1 ∨ child lt xs pos = 2 * pos + 2 := by
  unfold child
  split
  · split
    · exact .inl rfl
    · exact .inr rfl
  · exact .inl rfl
theorem child_lt {xs : List α} {pos : Nat} (h : pos < xs.length / 2) : child lt xs pos < xs.length := by
  unfold child
  split
  · rename_i l r hl hr
    have := (List.getElem?_eq_some_iff.mp hr).1
    split <;> omega
  · omega
theorem child_le (O : Ord lt) {xs : List α} {pos c : Nat} (h1 : 1 ≤ c) (hc : (c - 1) / 2 = pos) : Edge lt xs (child lt xs pos) c := by
  intro x y hx hy
  have hc' : c = 2 * pos + 1 ∨ c = 2 * pos + 2 := by omega
  unfold child at hx
  split at hx
  · rename_i l r hl hr
    split at hx
    · rename_i hlt
      rcases hc' with rfl | rfl
      · rw [hy] at hx
        cases hx
        exact O.rfl
      · rw [hl] at hx
        rw [hr] at hy
        cases hx
        cases hy
        exact O.lt_le hlt
    · rename_i hlt
      rcases hc' with rfl | rfl
      · rw [hr] at hx
        rw [hl] at hy
        cases hx
        cases hy
        exact O.tot hlt
      · rw [hy] at hx
        cases hx
        exact O.rfl
  · rename_i hno
    rcases hc' with rfl | rfl
    · rw [hy] at hx
      cases hx
      exact O.rfl
    · exact (hno _ _ hx hy).elim
theorem down_ok (O : Ord lt) {s : Nat} : ∀ (f : Nat) (xs : List α) (pos : Nat), xs.length < f + pos → pos < xs.length → Desc s pos → (∀ c, 1 ≤ c → s ≤ (c - 1) / 2 → c ≠ pos → (c - 1) / 2 ≠ pos → Edge lt xs ((c - 1) / 2) c) →
    (pos ≠ s → ∀ c, 1 ≤ c → (c - 1) / 2 = pos → Edge lt xs ((pos - 1) / 2) c) → From lt s (down lt f xs pos s)
  | 0, _, _, h, _, _, _, _ => by omega
  | f + 1, xs, pos, hf, hp, hd, h1, h2 => by
    unfold down
    have hge := hd.ge
    split
    · rename_i hin
      have hch := child_lt (lt := lt) hin
      have hcs := child_is (lt := lt) (xs := xs) (pos := pos)
      have hle := fun c c1 hc => child_le O (xs := xs) (pos := pos) (c := c) c1 hc
      generalize child lt xs pos = ch at *
      have hpc : (ch - 1) / 2 = pos := by omega
      refine down_ok O f _ _ (by rw [swp_len]; omega) (by rw [swp_len]; exact hch) ?_ (fun c c1 cs cne cpn => ?_) fun hne c c1 cp => ?_
      · rcases hcs with rfl | rfl
        · exact .left hd
        · exact .right hd
      · by_cases e1 : c = pos
        · subst e1
          intro x y hx hy
          rw [swp_get hch hp, if_neg (by omega), if_neg cpn] at hx
          rw [swp_get hch hp, if_pos rfl] at hy
          exact h2 (by omega) ch (by omega) hpc _ _ hx hy
        · by_cases e2 : (c - 1) / 2 = pos
          · intro x y hx hy
            rw [e2, swp_get hch hp, if_pos rfl] at hx
            rw [swp_get hch hp, if_neg e1, if_neg cne] at hy
            exact hle c c1 e2 _ _ hx hy
          · exact edge_swp hch hp ⟨cpn, e2⟩ ⟨cne, e1⟩ (h1 c c1 cs e1 e2)
      · intro x y hx hy
        rw [hpc, swp_get hch hp, if_pos rfl] at hx
        rw [swp_get hch hp, if_neg (by omega), if_neg (by omega)] at hy
        exact h1 c c1 (by omega) (by omega) (by omega) _ _ (by rw [cp]; exact hx) hy
    · rename_i hin
      refine up_ok O _ _ _ (by omega) hp hd (fun c c1 cs cne => ?_) h2
      by_cases e2 : (c - 1) / 2 = pos
      · intro x y hx hy
        have := (List.getElem?_eq_some_iff.mp hy).1
        omega
      · exact h1 c c1 cs cne e2
theorem sift_ok (O : Ord lt) {s : Nat} {xs : List α} (h : From lt (s + 1) xs) (hs : s < xs.length) : From lt s (sift lt xs s) := by
  refine down_ok O _ _ _ (by omega) hs .rfl (fun c c1 cs cne cpn => ?_) fun hne => (hne rfl).elim
  exact h c c1 (by omega)
theorem sift_perm {xs : List α} {s : Nat} : (sift lt xs s).Perm xs := down_perm _ _ _ _
theorem fix_perm : ∀ (k : Nat) (xs : List α), (fixAll lt k xs).Perm xs
  | 0, xs => .refl _
  | k + 1, xs => (fix_perm k _).trans sift_perm
theorem fix_ok (O : Ord lt) : ∀ (k : Nat) (xs : List α), k ≤ xs.length → From lt k xs → From lt 0 (fixAll lt k xs)
  | 0, xs, _, h => h
  | k + 1, xs, hk, h => fix_ok O k _ (by rw [sift_perm.length_eq]; omega) (sift_ok O h (by omega))
abbrev Heap (lt : α → α → Bool) (xs : List α) : Prop := From lt 0 xs
theorem heapify_perm {xs : List α} : (heapify lt xs).Perm xs := fix_perm _ _
theorem heapify_ok (O : Ord lt) {xs : List α} : Heap lt (heapify lt xs) := by
  refine fix_ok O _ _ (by omega) fun c c1 cs x y hx hy => ?_
  have := (List.getElem?_eq_some_iff.mp hy).1
  omega
theorem push_perm {xs : List α} {x : α} : (push lt xs x).Perm (x :: xs) := (up_perm _ _ _ _).trans (by simpa using List.perm_append_comm (l₁ := xs) (l₂ := [x]))
theorem desc0 : ∀ p : Nat, Desc 0 p := by
  intro p
  induction p using Nat.strongRecOn with
  | ind p ih =>
    by_cases h : p = 0
    · subst h; exact .rfl
    · by_cases h2 : p % 2 = 1
      · have := (ih ((p - 1) / 2) (by omega)).left
        rwa [show 2 * ((p - 1) / 2) + 1 = p by omega] at this
      · have := (ih ((p - 2) / 2) (by omega)).right
        rwa [show 2 * ((p - 2) / 2) + 2 = p by omega] at this
theorem push_ok (O : Ord lt) {xs : List α} {x : α} (h : Heap lt xs) : Heap lt (push lt xs x) := by
  refine up_ok O _ _ _ (by omega) (by simp) (desc0 _) (fun c c1 _ cne y z hy hz => ?_) fun hne c c1 cp y z hy hz => ?_
  · have hl := (List.getElem?_eq_some_iff.mp hz).1
    simp at hl
    rw [List.getElem?_append_left (by omega)] at hy hz
    exact h c c1 (by omega) y z hy hz
  · have hl := (List.getElem?_eq_some_iff.mp hz).1
    simp at hl
    omega
theorem heap_min (O : Ord lt) {x : α} {xs : List α} (h : Heap lt (x :: xs)) : ∀ y ∈ x :: xs, le lt x y := by
  have : ∀ (i : Nat) (y : α), (x :: xs)[i]? = some y → le lt x y := by
    intro i
    induction i using Nat.strongRecOn with
    | ind i ih =>
      intro y hy
      by_cases h0 : i = 0
      · subst h0
        simp at hy
        subst hy
        exact O.rfl
      · have hl := (List.getElem?_eq_some_iff.mp hy).1
        have hq : (i - 1) / 2 < (x :: xs).length := by omega
        have e := List.getElem?_eq_getElem hq
        exact O.tr _ _ _ (ih _ (by omega) _ e) (h i (by omega) (by omega) _ _ e hy)
  intro y hy
  obtain ⟨i, hi⟩ := List.mem_iff_getElem?.mp hy
  exact this i y hi
theorem pop_some (O : Ord lt) {xs : List α} (h : Heap lt xs) (hne : xs ≠ []) : ∃ x ys, pop lt xs = some (x, ys) ∧ xs.Perm (x :: ys) ∧ Heap lt ys ∧ ∀ y ∈ ys, le lt x y := by
  cases xs with
  | nil => exact (hne rfl).elim
  | cons first rest =>
    have hmin := heap_min O h
    by_cases hr : rest = []
    · subst hr
      refine ⟨first, [], rfl, .refl _, fun c c1 cs x y hx hy => by simp at hy, fun y hy => by simp at hy⟩
    · have hl : (first :: rest).getLast? = some (rest.getLast hr) := by
        rw [List.getLast?_eq_some_getLast (by simp), List.getLast_cons hr]
      have hp : (rest.getLast hr :: rest.dropLast).Perm rest := by
        have := List.perm_append_comm (l₁ := [rest.getLast hr]) (l₂ := rest.dropLast)
        rw [List.dropLast_concat_getLast hr] at this
        exact this
      refine ⟨first, sift lt (rest.getLast hr :: rest.dropLast) 0, ?_, ?_, ?_, fun y hy => ?_⟩
      · unfold pop
        rw [hl]
        simp only [if_neg hr]
      · exact .cons _ (hp.symm.trans sift_perm.symm)
      · refine sift_ok O (fun c c1 cs x y hx hy => ?_) (by simp)
        have hcl := (List.getElem?_eq_some_iff.mp hy).1
        have hc0 : c ≠ 0 := by omega
        obtain ⟨c', rfl⟩ : ∃ c', c = c' + 1 := ⟨c - 1, by omega⟩
        obtain ⟨p', hp'⟩ : ∃ p', (c' + 1 - 1) / 2 = p' + 1 := ⟨(c' + 1 - 1) / 2 - 1, by omega⟩
        rw [hp'] at hx
        simp at hx hy hcl
        rw [List.getElem?_dropLast] at hx hy
        rw [if_pos (by omega)] at hx hy
        refine h (c' + 1) c1 (by omega) x y ?_ (by simpa using hy)
        rw [hp']
        simpa using hx
      · exact hmin y (List.mem_cons_of_mem _ ((sift_perm.trans hp).subset hy))
end Hq
set_option Elab.async false
set_option linter.all false
set_option maxRecDepth 100000
namespace Hm
open PySem
theorem plain_sift : plainId "_heapq.heapify.sift" = true := by decide +kernel
theorem entry_sift : entryFor table "_heapq.heapify.sift" = some Builtin.«_heapq.heapify.sift» := entryFor_of_fast (by kernel_rfl)
theorem kind_push : builtinKind "_heapq.heappush" = none := by decide +kernel
theorem plain_push : plainId "_heapq.heappush" = true := by decide +kernel
theorem entry_push : entryFor table "_heapq.heappush" = some Builtin.«_heapq.heappush» := entryFor_of_fast (by kernel_rfl)
theorem args_push (a b : Value) : argsOk "_heapq.heappush" ⟨[a, b], []⟩ := by unfold argsOk; kernel_rfl
theorem kind_pop : builtinKind "_heapq.heappop" = none := by decide +kernel
theorem plain_pop : plainId "_heapq.heappop" = true := by decide +kernel
theorem entry_pop : entryFor table "_heapq.heappop" = some Builtin.«_heapq.heappop» := entryFor_of_fast (by kernel_rfl)
theorem args_pop (a : Value) : argsOk "_heapq.heappop" ⟨[a], []⟩ := by unfold argsOk; kernel_rfl
theorem kind_heapify : builtinKind "_heapq.heapify" = none := by decide +kernel
theorem plain_heapify : plainId "_heapq.heapify" = true := by decide +kernel
theorem entry_heapify : entryFor table "_heapq.heapify" = some Builtin.«_heapq.heapify» := entryFor_of_fast (by kernel_rfl)
theorem args_heapify (a : Value) : argsOk "_heapq.heapify" ⟨[a], []⟩ := by unfold argsOk; kernel_rfl
/-- a list at a place, rewritten step by step -/
structure Ways (prog : Program) (w : World) (A : Around) (a : Addr) (U : List Value) (lt : Value → Value → Bool) (St : List Value → Shared → Prop) : Prop where
  get : ∀ xs s, St xs s → xs.length ≤ 5000 ∧ (∀ x ∈ xs, x ∈ U) ∧ ∃ n, s.heap.get? a = some { cls := .type "list", data := .seq xs.toArray n }
  set : ∀ xs ys s n (f : Array Value → Array Value), St xs s → s.heap.get? a = some { cls := .type "list", data := .seq xs.toArray n } → f xs.toArray = ys.toArray → ys.length ≤ 5000 → (∀ y ∈ ys, y ∈ U) →
    St ys { s with heap := s.heap.update a (Obj.mapSeq f) }
  cmp : ∀ xs s x y (E : Value → Shared → Prop) (Q : Value → Shared → Prop), St xs s → x ∈ U → y ∈ U → Q (.bool (lt x y)) s → wpAny (model prog w) A.in1 (richCompare .Lt x y) Q E s
def siftCode (a : Addr) (dn : Bool) (pos top : Nat) (u : Value) (after : Int) : Code := .builtin "_heapq.heapify.sift" ⟨[.ref a, .bool false, .bool dn, rawInt pos, rawInt top, u, rawInt after], []⟩
section
variable {prog : Program} {w : World} {A : Around} {a : Addr} {U : List Value} {lt : Value → Value → Bool} {St : List Value → Shared → Prop} {R : Result → Shared → Prop}
def Then (prog : Program) (w : World) (A : Around) (a : Addr) (u : Value) (after : Int) (R : Result → Shared → Prop) (s : Shared) : Prop :=
  if after < 0 then R (.ok (.ret u)) s else codeAny (model prog w) A (siftCode a true after.toNat after.toNat u (after - 1)) R s
theorem up_run (W : Ways prog w A a U lt St) {u : Value} {after : Int} {top : Nat} : ∀ (f : Nat) (xs : List Value) (pos : Nat) (s : Shared), pos < f → pos < xs.length → St xs s →
    (∀ s', St (Hq.up lt f xs pos top) s' → Then prog w A a u after R s') → codeAny (model prog w) A (siftCode a false pos top u after) R s
  | 0, _, _, _, h, _, _, _ => by omega
  | f + 1, xs, pos, s, hf, hp, hs, k => by
    obtain ⟨hz, hU, n, hg⟩ := W.get xs s hs
    refine codeAny_builtin entry_sift ?_
    rw [Around.under_plainId plain_sift _]
    wp_walk
    simp only [Int.toNat_natCast]
    by_cases htp : top < pos
    · rw [if_pos htp]
      have hq : (pos - 1) / 2 < xs.length := by omega
      have hx : xs.toArray[pos]? = some xs[pos] := by simp [hp]
      have hy : xs.toArray[(pos - 1) / 2]? = some xs[(pos - 1) / 2] := by simp [hq]
      generalize hX : xs[pos] = x at *
      generalize hY : xs[(pos - 1) / 2] = y at *
      wp_walk
      rw [hx]
      wp_walk
      rw [hy]
      refine wpAny_pure ?_
      show wpAny _ A.in1 ((holding [x, y] (richCompare .Lt x y >>= truthOfDropped) >>= _) >>= _) _ _ _
      refine wpAny_bind (wpAny_bind (wpAny_holding (wpAny_bind (W.cmp xs s x y _ _ hs (hU _ (hX ▸ List.getElem_mem _)) (hU _ (hY ▸ List.getElem_mem _)) ?_))))
      wp_walk
      have hk := k
      unfold Hq.up at hk
      rw [if_pos htp, List.getElem?_eq_getElem hp, List.getElem?_eq_getElem hq] at hk
      simp only [hX, hY] at hk
      by_cases hlt : lt x y = true
      · rw [if_pos hlt]
        simp only [hlt, if_true] at hk
        wp_walk
        rw [hy]
        wp_walk
        rw [hx]
        wp_walk
        have hpl : (Obj.mapSeq (fun xs => (xs.setIfInBounds ((pos - 1) / 2) x).setIfInBounds pos y) { cls := Value.type "list", data := Data.seq xs.toArray n }).data.pastItsLine = none := pastItsLine_seq (Nat.le_trans (by simp; exact hz) (show 5000 ≤ sizeLine + 1 by decide))
        rw [hpl]
        wp_walk
        refine ⟨plainId_quiet plain_sift _, up_run W f (Hq.swp xs ((pos - 1) / 2) pos) ((pos - 1) / 2) _ (by omega) (by rw [Hq.swp_len]; exact hq) ?_ hk⟩
        refine W.set xs _ s n _ hs hg ?_ (by rw [Hq.swp_len]; exact hz) fun z hz => hU z (Hq.swp_perm.subset hz)
        unfold Hq.swp
        rw [List.getElem?_eq_getElem hp, List.getElem?_eq_getElem hq]
        simp [hX, hY]
      · rw [if_neg hlt]
        simp only [hlt] at hk
        have hs' := hk s hs
        unfold Then at hs'
        by_cases ha : after < 0
        · rw [if_pos ha] at hs' ⊢
          wp_walk
          exact hs'
        · rw [if_neg ha] at hs' ⊢
          wp_walk
          exact ⟨plainId_quiet plain_sift _, hs'⟩
    · have hs' := k s (by unfold Hq.up; rw [if_neg htp]; exact hs)
      rw [if_neg htp]
      unfold Then at hs'
      by_cases ha : after < 0
      · rw [if_pos ha] at hs' ⊢
        wp_walk
        exact hs'
      · rw [if_neg ha] at hs' ⊢
        wp_walk
        exact ⟨plainId_quiet plain_sift _, hs'⟩
theorem down_run (W : Ways prog w A a U lt St) {u : Value} {after : Int} {top : Nat} : ∀ (f : Nat) (xs : List Value) (pos : Nat) (s : Shared), xs.length < f + pos → pos < xs.length → St xs s →
    (∀ s', St (Hq.down lt f xs pos top) s' → Then prog w A a u after R s') → codeAny (model prog w) A (siftCode a true pos top u after) R s
  | 0, _, _, _, h, _, _, _ => by omega
  | f + 1, xs, pos, s, hf, hp, hs, k => by
    obtain ⟨hz, hU, n, hg⟩ := W.get xs s hs
    refine codeAny_builtin entry_sift ?_
    rw [Around.under_plainId plain_sift _]
    wp_walk
    simp only [Int.toNat_natCast, List.size_toArray]
    have hk := k
    unfold Hq.down at hk
    by_cases hin : pos < xs.length / 2
    · rw [if_pos hin] at hk ⊢
      have hch := Hq.child_lt (lt := lt) hin
      by_cases h2 : 2 * pos + 1 + 1 < xs.length
      · rw [if_pos h2]
        have h1 : 2 * pos + 1 < xs.length := by omega
        have hl : xs.toArray[2 * pos + 1]? = some xs[2 * pos + 1] := by simp [h1]
        have hr : xs.toArray[2 * pos + 1 + 1]? = some xs[2 * pos + 1 + 1] := by simp [h2]
        wp_walk
        rw [hl]
        wp_walk
        rw [hr]
        refine wpAny_pure ?_
        show wpAny _ A.in1 ((holding [xs[2 * pos + 1], xs[2 * pos + 1 + 1]] (richCompare .Lt xs[2 * pos + 1] xs[2 * pos + 1 + 1] >>= truthOfDropped) >>= _) >>= _) _ _ _
        refine wpAny_bind (wpAny_bind (wpAny_holding (wpAny_bind (W.cmp xs s _ _ _ _ hs (hU _ (List.getElem_mem _)) (hU _ (List.getElem_mem _)) ?_))))
        wp_walk
        by_cases hlt : lt xs[2 * pos + 1] xs[2 * pos + 1 + 1] = true
        · rw [hlt]
          have hcc : Hq.child lt xs pos = 2 * pos + 1 := by
            unfold Hq.child
            rw [List.getElem?_eq_getElem h1, List.getElem?_eq_getElem (show 2 * pos + 2 < xs.length from h2)]
            simp only
            rw [if_pos hlt]
          have hc' : 2 * pos + 1 < xs.length := by rw [← hcc]; exact hch
          rw [hcc] at hk
          have hx' : xs.toArray[2 * pos + 1]? = some xs[2 * pos + 1] := by simp [hc']
          have hy' : xs.toArray[pos]? = some xs[pos] := by simp [hp]
          wp_walk
          rw [hx']
          wp_walk
          rw [hy']
          wp_walk
          have hpl : (Obj.mapSeq (fun ys => (ys.setIfInBounds (2 * pos + 1) xs[pos]).setIfInBounds pos xs[2 * pos + 1]) { cls := Value.type "list", data := Data.seq xs.toArray n }).data.pastItsLine = none := pastItsLine_seq (Nat.le_trans (by simp; exact hz) (show 5000 ≤ sizeLine + 1 by decide))
          rw [hpl]
          wp_walk
          refine ⟨plainId_quiet plain_sift _, down_run W f (Hq.swp xs (2 * pos + 1) pos) (2 * pos + 1) _ (by rw [Hq.swp_len]; omega) (by rw [Hq.swp_len]; exact hc') ?_ hk⟩
          refine W.set xs _ s n _ hs hg ?_ (by rw [Hq.swp_len]; exact hz) fun z hz => hU z (Hq.swp_perm.subset hz)
          unfold Hq.swp
          rw [List.getElem?_eq_getElem hp, List.getElem?_eq_getElem hc']
          simp
        · have hlf : lt xs[2 * pos + 1] xs[2 * pos + 1 + 1] = false := by simpa using hlt
          rw [hlf]
          have hcc : Hq.child lt xs pos = 2 * pos + 1 + 1 := by
            unfold Hq.child
            rw [List.getElem?_eq_getElem h1, List.getElem?_eq_getElem (show 2 * pos + 2 < xs.length from h2)]
            simp only
            rw [if_neg hlt]
          have hc' : 2 * pos + 1 + 1 < xs.length := by rw [← hcc]; exact hch
          rw [hcc] at hk
          have hx' : xs.toArray[2 * pos + 1 + 1]? = some xs[2 * pos + 1 + 1] := by simp [hc']
          have hy' : xs.toArray[pos]? = some xs[pos] := by simp [hp]
          wp_walk
          rw [hx']
          wp_walk
          rw [hy']
          wp_walk
          have hpl : (Obj.mapSeq (fun ys => (ys.setIfInBounds (2 * pos + 1 + 1) xs[pos]).setIfInBounds pos xs[2 * pos + 1 + 1]) { cls := Value.type "list", data := Data.seq xs.toArray n }).data.pastItsLine = none := pastItsLine_seq (Nat.le_trans (by simp; exact hz) (show 5000 ≤ sizeLine + 1 by decide))
          rw [hpl]
          wp_walk
          refine ⟨plainId_quiet plain_sift _, down_run W f (Hq.swp xs (2 * pos + 1 + 1) pos) (2 * pos + 1 + 1) _ (by rw [Hq.swp_len]; omega) (by rw [Hq.swp_len]; exact hc') ?_ hk⟩
          refine W.set xs _ s n _ hs hg ?_ (by rw [Hq.swp_len]; exact hz) fun z hz => hU z (Hq.swp_perm.subset hz)
          unfold Hq.swp
          rw [List.getElem?_eq_getElem hp, List.getElem?_eq_getElem hc']
          simp
      · rw [if_neg h2]
        have hcc : Hq.child lt xs pos = 2 * pos + 1 := by
          unfold Hq.child
          rw [List.getElem?_eq_none (i := 2 * pos + 2) (by omega)]
          split
          · rename_i h
            cases h
          · rfl
        have hc' : 2 * pos + 1 < xs.length := by rw [← hcc]; exact hch
        rw [hcc] at hk
        have hx' : xs.toArray[2 * pos + 1]? = some xs[2 * pos + 1] := by simp [hc']
        have hy' : xs.toArray[pos]? = some xs[pos] := by simp [hp]
        wp_walk
        rw [hx']
        wp_walk
        rw [hy']
        wp_walk
        have hpl : (Obj.mapSeq (fun ys => (ys.setIfInBounds (2 * pos + 1) xs[pos]).setIfInBounds pos xs[2 * pos + 1]) { cls := Value.type "list", data := Data.seq xs.toArray n }).data.pastItsLine = none := pastItsLine_seq (Nat.le_trans (by simp; exact hz) (show 5000 ≤ sizeLine + 1 by decide))
        rw [hpl]
        wp_walk
        refine ⟨plainId_quiet plain_sift _, down_run W f (Hq.swp xs (2 * pos + 1) pos) (2 * pos + 1) _ (by rw [Hq.swp_len]; omega) (by rw [Hq.swp_len]; exact hc') ?_ hk⟩
        refine W.set xs _ s n _ hs hg ?_ (by rw [Hq.swp_len]; exact hz) fun z hz => hU z (Hq.swp_perm.subset hz)
        unfold Hq.swp
        rw [List.getElem?_eq_getElem hp, List.getElem?_eq_getElem hc']
        simp
    · rw [if_neg hin] at hk ⊢
      wp_walk
      exact ⟨plainId_quiet plain_sift _, up_run W _ _ _ _ (by omega) hp hs hk⟩
end
end Hm
set_option Elab.async false
set_option linter.all false
set_option maxRecDepth 100000
namespace Hm
open PySem
section
variable {prog : Program} {w : World} {A : Around} {a : Addr} {U : List Value} {lt : Value → Value → Bool} {St : List Value → Shared → Prop} {R : Result → Shared → Prop} {E : Value → Shared → Prop} {Q : Value → Shared → Prop} {xs : List Value} {s : Shared}
theorem push_call (W : Ways prog w A a U lt St) {x : Value} (hs : St xs s) (hx : x ∈ U) (hl : xs.length < 5000) (k : ∀ s', St (Hq.push lt xs x) s' → Q .none s') : wpAny (model prog w) A (call (.builtin "_heapq.heappush") [.ref a, x]) Q E s := by
  obtain ⟨hz, hU, n, hg⟩ := W.get xs s hs
  refine call_function_tree kind_push plain_push entry_push (args_push _ _) ?_
  have f3 := AutoSeq1.sub_list_list
  have hs2 : St (xs ++ [x]) { s with heap := s.heap.update a (Obj.mapSeq fun x_1 => x_1.push x) } := W.set xs (xs ++ [x]) s n _ hs hg (by simp) (by simp; omega) fun y hy => by
    rcases List.mem_append.mp hy with h | h
    · exact hU y h
    · rw [List.mem_singleton.mp h]; exact hx
  obtain ⟨_, _, n2, hg2⟩ := W.get _ _ hs2
  simp only at hg2
  wp_walk
  have hpl : ({ cls := Value.type "list", data := Data.seq (xs ++ [x]).toArray n2 } : Obj).data.pastItsLine = none := pastItsLine_seq (Nat.le_trans (by simp; omega) (show 5000 ≤ sizeLine + 1 by decide))
  rw [hpl]
  wp_walk
  have e : (xs ++ [x]).toArray.size - 1 = xs.length := by simp
  rw [e]
  refine ⟨plainId_quiet plain_sift _, up_run W (xs.length + 1) (xs ++ [x]) xs.length _ (by omega) (by simp) hs2 fun s' h => ?_⟩
  unfold Then
  rw [if_pos (by decide)]
  exact k s' h
theorem pop_call (W : Ways prog w A a U lt St) (hs : St xs s) {y : Value} {ys : List Value} (hp : Hq.pop lt xs = some (y, ys)) (k : ∀ s', St ys s' → Q y s') : wpAny (model prog w) A (call (.builtin "_heapq.heappop") [.ref a]) Q E s := by
  obtain ⟨hz, hU, n, hg⟩ := W.get xs s hs
  refine call_function_tree kind_pop plain_pop entry_pop (args_pop _) ?_
  have f3 := AutoSeq1.sub_list_list
  cases xs with
  | nil => cases hp
  | cons first rest =>
    have hs2 : St (first :: rest).dropLast { s with heap := s.heap.update a (Obj.mapSeq fun x => x.pop) } := W.set _ _ s n _ hs hg (by simp) (by simp at hz ⊢; omega) fun y hy => hU y (List.dropLast_subset _ hy)
    obtain ⟨_, _, n2, hg2⟩ := W.get _ _ hs2
    simp only at hg2
    have hb : (first :: rest).toArray.back? = some ((first :: rest).getLast (by simp)) := by
      rw [List.back?_toArray, List.getLast?_eq_some_getLast (by simp)]
    have hpl : ({ cls := Value.type "list", data := Data.seq (first :: rest).dropLast.toArray n2 } : Obj).data.pastItsLine = none := pastItsLine_seq (Nat.le_trans (by simp at hz ⊢; omega) (show 5000 ≤ sizeLine + 1 by decide))
    wp_walk
    rw [hb]
    wp_walk
    rw [hpl]
    wp_walk
    unfold Hq.pop at hp
    rw [List.getLast?_eq_some_getLast (by simp)] at hp
    simp only at hp
    by_cases hr : rest = []
    · subst hr
      simp at hp
      obtain ⟨rfl, rfl⟩ := hp
      simp
      wp_walk
      exact k _ hs2
    · rw [if_neg hr] at hp
      cases hp
      have h1 : ((y :: rest).toArray.size == 1) = false := by
        have : rest.length ≠ 0 := fun h => hr (List.eq_nil_of_length_eq_zero h)
        simp
        omega
      rw [h1]
      have hlast : (y :: rest).getLast (by simp) = rest.getLast hr := List.getLast_cons hr
      have hdl : (y :: rest).dropLast = y :: rest.dropLast := List.dropLast_cons_of_ne_nil hr
      have hs3 := W.set _ (rest.getLast hr :: rest.dropLast) _ n2 (fun x => x.setIfInBounds 0 (rest.getLast hr)) hs2 hg2 (by rw [hdl]; simp) (by simp at hz ⊢; omega) fun y hy => by
        rcases List.mem_cons.mp hy with h | h
        · rw [h]
          exact hU _ (List.mem_cons_of_mem _ (List.getLast_mem hr))
        · exact hU _ (List.mem_cons_of_mem _ (List.dropLast_subset _ h))
      have hpl2 : (Obj.mapSeq (fun x => x.setIfInBounds 0 (rest.getLast hr)) { cls := Value.type "list", data := Data.seq (y :: rest).dropLast.toArray n2 }).data.pastItsLine = none := pastItsLine_seq (Nat.le_trans (by simp at hz ⊢; omega) (show 5000 ≤ sizeLine + 1 by decide))
      rw [hlast]
      wp_walk
      rw [hpl2]
      wp_walk
      refine ⟨plainId_quiet plain_sift _, down_run W (rest.dropLast.length + 1 + 1) (rest.getLast hr :: rest.dropLast) 0 _ (by simp) (by simp) hs3 fun s' h => ?_⟩
      unfold Then
      rw [if_pos (by decide)]
      refine k s' ?_
      rw [hlast]
      exact h
theorem fix_run (W : Ways prog w A a U lt St) {u : Value} : ∀ (k : Nat) (xs : List Value) (s : Shared), k < xs.length → St xs s → (∀ s', St (Hq.fixAll lt (k + 1) xs) s' → R (.ok (.ret u)) s') → codeAny (model prog w) A (siftCode a true k k u ((k : Int) - 1)) R s
  | 0, xs, s, hk, hs, h => down_run W (xs.length + 1) xs 0 s (by omega) hk hs fun s' h' => by
    unfold Then
    rw [if_pos (by omega)]
    exact h s' h'
  | k + 1, xs, s, hk, hs, h => down_run W (xs.length + 1) xs (k + 1) s (by omega) hk hs fun s' h' => by
    unfold Then
    rw [if_neg (by omega)]
    have e : (((k + 1 : Nat) : Int) - 1).toNat = k := by omega
    have e2 : ((k + 1 : Nat) : Int) - 1 - 1 = (k : Int) - 1 := by omega
    rw [e, e2]
    refine fix_run W k _ s' ?_ h' fun s2 h2 => h s2 h2
    rw [(Hq.down_perm _ _ _ _).length_eq]
    omega
theorem heapify_call (W : Ways prog w A a U lt St) (hs : St xs s) (hl : xs.length ≤ 2500) (k : ∀ s', St (Hq.heapify lt xs) s' → Q .none s') : wpAny (model prog w) A (call (.builtin "_heapq.heapify") [.ref a]) Q E s := by
  obtain ⟨hz, hU, n, hg⟩ := W.get xs s hs
  refine call_function_tree kind_heapify plain_heapify entry_heapify (args_heapify _) ?_
  have f3 := AutoSeq1.sub_list_list
  have h25 : ¬ xs.toArray.size > 2500 := by simp; omega
  wp_walk
  by_cases h2 : xs.length < 2
  · rw [if_pos (by simpa using h2)]
    wp_walk
    refine k s ?_
    unfold Hq.heapify
    rw [show xs.length / 2 = 0 by omega]
    exact hs
  · rw [if_neg (by simpa using h2)]
    wp_walk
    have e : ((xs.toArray.size / 2 : Nat) : Int) - 2 = ((xs.length / 2 - 1 : Nat) : Int) - 1 := by simp; omega
    have e2 : xs.toArray.size / 2 - 1 = xs.length / 2 - 1 := by simp
    rw [e, e2]
    refine ⟨plainId_quiet plain_sift _, fix_run W (xs.length / 2 - 1) xs s (by omega) hs fun s' h => ?_⟩
    rw [show xs.length / 2 - 1 + 1 = xs.length / 2 by omega] at h
    exact k s' h
end
end Hm
set_option linter.all false
namespace Hq
variable {α β : Type} {lt : α → α → Bool} {lt' : β → β → Bool} {f : α → β}
theorem swp_map {xs : List α} {i j : Nat} : swp (xs.map f) i j = (swp xs i j).map f := by
  unfold swp
  rw [List.getElem?_map, List.getElem?_map]
  cases xs[i]? <;> cases xs[j]? <;> simp [List.map_set]
theorem up_map (h : ∀ x y, lt' (f x) (f y) = lt x y) : ∀ (n : Nat) (xs : List α) (p t : Nat), up lt' n (xs.map f) p t = (up lt n xs p t).map f
  | 0, xs, p, t => rfl
  | n + 1, xs, p, t => by
    unfold up
    rw [List.getElem?_map, List.getElem?_map]
    split
    · cases xs[p]? with
      | none => rfl
      | some x =>
        cases xs[(p - 1) / 2]? with
        | none => rfl
        | some y =>
          simp only [Option.map_some, h]
          split
          · rw [swp_map, up_map h]
          · rfl
    · rfl
theorem child_map (h : ∀ x y, lt' (f x) (f y) = lt x y) {xs : List α} {p : Nat} : child lt' (xs.map f) p = child lt xs p := by
  unfold child
  rw [List.getElem?_map, List.getElem?_map]
  cases xs[2 * p + 1]? with
  | none => rfl
  | some x =>
    cases xs[2 * p + 2]? with
    | none => rfl
    | some y => simp only [Option.map_some, h]
theorem down_map (h : ∀ x y, lt' (f x) (f y) = lt x y) : ∀ (n : Nat) (xs : List α) (p t : Nat), down lt' n (xs.map f) p t = (down lt n xs p t).map f
  | 0, xs, p, t => rfl
  | n + 1, xs, p, t => by
    unfold down
    rw [List.length_map, child_map h]
    split
    · rw [swp_map, down_map h]
    · rw [up_map h]
theorem sift_map (h : ∀ x y, lt' (f x) (f y) = lt x y) {xs : List α} {p : Nat} : sift lt' (xs.map f) p = (sift lt xs p).map f := by
  unfold sift
  rw [List.length_map, down_map h]
theorem fix_map (h : ∀ x y, lt' (f x) (f y) = lt x y) : ∀ (k : Nat) (xs : List α), fixAll lt' k (xs.map f) = (fixAll lt k xs).map f
  | 0, xs => rfl
  | k + 1, xs => by
    unfold fixAll
    rw [sift_map h, fix_map h]
theorem heapify_map (h : ∀ x y, lt' (f x) (f y) = lt x y) {xs : List α} : heapify lt' (xs.map f) = (heapify lt xs).map f := by
  unfold heapify
  rw [List.length_map, fix_map h]
theorem push_map (h : ∀ x y, lt' (f x) (f y) = lt x y) {xs : List α} {x : α} : push lt' (xs.map f) (f x) = (push lt xs x).map f := by
  unfold push
  rw [show xs.map f ++ [f x] = (xs ++ [x]).map f by simp, List.length_map, up_map h]
theorem pop_map (h : ∀ x y, lt' (f x) (f y) = lt x y) {xs : List α} : pop lt' (xs.map f) = (pop lt xs).map fun p => (f p.1, p.2.map f) := by
  cases xs with
  | nil => rfl
  | cons a r =>
    unfold pop
    rw [List.map_cons, ← List.map_cons, List.getLast?_map]
    cases hl : (a :: r).getLast? with
    | none => simp at hl
    | some l =>
      simp only [Option.map_some, List.map_cons, List.map_eq_nil_iff]
      split
      · rfl
      · rw [List.map_dropLast.symm]
        rw [show f l :: List.map f r.dropLast = (l :: r.dropLast).map f from rfl, sift_map h]
        rfl
theorem pop_sub {xs ys : List α} {x : α} (h : pop lt xs = some (x, ys)) : x ∈ xs ∧ (∀ y ∈ ys, y ∈ xs) ∧ ys.length + 1 = xs.length := by
  cases xs with
  | nil => cases h
  | cons a r =>
    unfold pop at h
    rw [List.getLast?_eq_some_getLast (by simp)] at h
    simp only at h
    split at h
    · rename_i hr
      cases h
      subst hr
      exact ⟨by simp, fun y hy => by simp at hy, rfl⟩
    · rename_i hr
      cases h
      refine ⟨by simp, fun y hy => ?_, ?_⟩
      · rcases List.mem_cons.mp (sift_perm.subset hy) with h | h
        · rw [h]
          exact List.getLast_mem _
        · exact List.mem_cons_of_mem _ (List.dropLast_subset _ h)
      · rw [sift_perm.length_eq]
        have : r.length ≠ 0 := fun h => hr (List.eq_nil_of_length_eq_zero h)
        simp
        omega
end Hq
set_option Elab.async false
set_option linter.all false
set_option maxRecDepth 100000
namespace Dn
open PySem PySem.Spec PyProof.Rows L2
open Evl (Ex Ex.refl Ex.trans Ex.new fresh_back ex_l ex_t ex_rd)
/-! ### a list kept as a heap -/
def tupD : PyData → Bool
  | .tuple _ => true
  | _ => false
/-- what can stand in a heap -/
def heapOk (ds : List PyData) : Prop := (∀ d ∈ ds, ∀ d' ∈ ds, PySem.W.alike d d' = true) ∧ (∀ d ∈ ds, tupD d = true) ∧ ds.length ≤ 2000 ∧ ∀ d ∈ ds, d.depth ≤ 40
instance {ds : List PyData} : Decidable (heapOk ds) := by
  unfold heapOk
  infer_instance
abbrev dLt := PySem.W.dataLt
theorem upd_twice {H : Hp} {a : Addr} {x y : HO} : upd (upd H a x) a y = upd H a y := by
  funext b
  by_cases h : b = a
  · subst h
    rw [upd_same, upd_same]
  · rw [upd_ne h, upd_ne h, upd_ne h]
theorem refs_of {K : PySem.W.Frag} {I : Hp} : ∀ {xs : List V} {ds : List PyData}, DqAll K I xs ds → (∀ d ∈ ds, tupD d = true) → ∃ as : List Addr, xs = as.map V.ref
  | _, _, .nil, _ => ⟨[], rfl⟩
  | _, _, .cons h t, k => by
    obtain ⟨as, rfl⟩ := refs_of t fun d hd => k d (by simp [hd])
    have := k _ List.mem_cons_self
    cases h with
    | tup _ _ => exact ⟨_ :: as, rfl⟩
    | _ => cases this
theorem vals_refs : ∀ {as : List Addr} {us : List Value}, Vals (as.map V.ref) us → us = as.map Value.ref
  | [], _, .nil => rfl
  | a :: as, _, .cons h t => by
    rw [vals_refs t]
    cases h
    rfl
theorem refs_vals : ∀ as : List Addr, Vals (as.map V.ref) (as.map Value.ref)
  | [] => .nil
  | a :: as => .cons rfl (refs_vals as)
section
variable {X : Cx} {pins : List (Addr × Obj)} {σ : L2.St} {H : Hp} {I : Hp} {a : Addr} {s : Shared}
def StH (X : Cx) (pins : List (Addr × Obj)) (σ : L2.St) (H : Hp) (a : Addr) (L : List (Addr × PyData)) (vs : List Value) (s : Shared) : Prop :=
  ∃ (as : List Addr) (n : Nat), vs = as.map Value.ref ∧ as.length ≤ 5000 ∧ (∀ b ∈ as, b ∈ L.map Prod.fst) ∧ Inv X pins σ (upd H a (.lst (as.map V.ref))) s ∧ s.heap.get? a = some { cls := .type "list", data := .seq vs.toArray n }
def ltV (dat : Addr → PyData) (u v : Value) : Bool := match u, v with
  | .ref b, .ref c => dLt (dat b) (dat c)
  | _, _ => false
theorem ex_upd (ex : Ex I H) (h : I a = none) {o : HO} : Ex I (upd H a o) := fun b u q => by
  by_cases hb : b = a
  · subst hb
    rw [h] at q
    cases q
  · rw [upd_ne hb]
    exact ex b u q
theorem heap_ways (hu : X.A.units + 64 < cLine) (hIa : I a = none) (ex : Ex I H) (I0 : Inv X pins σ H s) {L : List (Addr × PyData)} (hL : ∀ p ∈ L, Dq X.K I (.ref p.1) p.2) (hok : heapOk (L.map Prod.snd)) :
    ∃ dat : Addr → PyData, (∀ p ∈ L, dat p.1 = p.2) ∧ Hm.Ways X.prog X.w X.A a (L.map fun p => Value.ref p.1) (ltV dat) (StH X pins σ H a L) := by
  have det : ∀ p ∈ L, ∀ q ∈ L, p.1 = q.1 → p.2 = q.2 := fun p hp q hq e => by
    obtain ⟨as, r1⟩ := Dq.reads I0 (Dq.up ex (hL p hp)) (u := .ref p.1) rfl
    obtain ⟨bs, r2⟩ := Dq.reads I0 (Dq.up ex (hL q hq)) (u := .ref q.1) rfl
    rw [e] at r1
    exact (PyProof.Rows.reads_det (fun b o e _ => e) r2 r1).1
  let dat : Addr → PyData := fun b => ((L.find? fun p => p.1 == b).map Prod.snd).getD .none
  have hdat : ∀ p ∈ L, dat p.1 = p.2 := fun p hp => by
    show ((L.find? fun q => q.1 == p.1).map Prod.snd).getD .none = p.2
    cases hf : L.find? fun q => q.1 == p.1 with
    | none =>
      have := List.find?_eq_none.mp hf p hp
      simp at this
    | some q =>
      have h1 := List.find?_some hf
      have h2 := List.mem_of_find?_eq_some hf
      simp at h1
      exact det q h2 p hp h1
  refine ⟨dat, hdat, ?_, ?_, ?_⟩
  · rintro xs s ⟨as, n, rfl, hl, hm, Iv, hg⟩
    refine ⟨by simpa using hl, fun x hx => ?_, n, hg⟩
    obtain ⟨b, hb, rfl⟩ := List.mem_map.mp hx
    obtain ⟨p, hp, rfl⟩ := List.mem_map.mp (hm b hb)
    exact List.mem_map.mpr ⟨p, hp, rfl⟩
  · rintro xs ys s n f ⟨as, n', rfl, hl, hm, Iv, hg'⟩ hg hf hy5 hyU
    obtain ⟨bs, rfl, hbs⟩ : ∃ bs : List Addr, ys = bs.map Value.ref ∧ ∀ b ∈ bs, b ∈ L.map Prod.fst := by
      clear hf hy5
      induction ys with
      | nil => exact ⟨[], rfl, fun b hb => by simp at hb⟩
      | cons y ys ih =>
        obtain ⟨bs, rfl, hbs⟩ := ih fun z hz => hyU z (by simp [hz])
        obtain ⟨p, hp, rfl⟩ := List.mem_map.mp (hyU y List.mem_cons_self)
        refine ⟨p.1 :: bs, rfl, fun b hb => ?_⟩
        rcases List.mem_cons.mp hb with rfl | hb
        · exact List.mem_map.mpr ⟨p, hp, rfl⟩
        · exact hbs b hb
    have I2 := Iv.lset (its := as.map Value.ref) (its' := bs.map Value.ref) (f := f) (t' := s.toks) upd_same hg hf (refs_vals bs) (by rw [List.length_map]; exact Nat.le_trans (by simpa using hy5) (show 5000 ≤ sizeLine by decide))
    rw [upd_twice] at I2
    have q := PySem.IsL.update hg f
    rw [hf] at q
    exact ⟨bs, _, rfl, by simpa using hy5, hbs, I2, q⟩
  · rintro xs s x y E Q ⟨as, n, rfl, hl, hm, Iv, hg⟩ hx hy q
    obtain ⟨p, hp, rfl⟩ := List.mem_map.mp hx
    obtain ⟨r, hr, rfl⟩ := List.mem_map.mp hy
    have ex2 : Ex I (upd H a (.lst (as.map V.ref))) := ex_upd ex hIa
    obtain ⟨bs, r1⟩ := Dq.reads Iv (Dq.up ex2 (hL p hp)) (u := .ref p.1) rfl
    obtain ⟨cs, r2⟩ := Dq.reads Iv (Dq.up ex2 (hL r hr)) (u := .ref r.1) rfl
    have m1 : p.2 ∈ L.map Prod.snd := List.mem_map.mpr ⟨p, hp, rfl⟩
    have m2 : r.2 ∈ L.map Prod.snd := List.mem_map.mpr ⟨r, hr, rfl⟩
    refine PySem.W.rcLt_alike p.2 r.2 X.A.in1 s _ _ bs cs r1 r2 (hok.1 _ m1 _ m2) (fun e => by have := hok.2.1 _ m1; rw [e] at this; cases this) ?_ X.prog X.w E Q ?_
    · have := hok.2.2.2 _ m1
      show X.A.units + 1 + _ < _
      omega
    · have q' : Q (.bool (dLt (dat p.1) (dat r.1))) s := q
      rw [hdat p hp, hdat r hr] at q'
      exact q'
end
def rHpush (K : PySem.W.Frag) : List V → Hp → VK → Prop := fun vs H Q => ∃ (a : Addr) (xs : List V) (ds : List PyData) (y : V) (d : PyData) (I : Hp), vs = [V.ref a, y] ∧ I a = none ∧ Ex I H ∧ H a = some (.lst xs) ∧ DqAll K I xs ds ∧ Dq K I y d ∧ heapOk (d :: ds) ∧
  ∀ xs', DqAll K I xs' (Hq.push dLt ds d) → Q .non (upd H a (.lst xs'))
def rHpop (K : PySem.W.Frag) : List V → Hp → VK → Prop := fun vs H Q => ∃ (a : Addr) (xs : List V) (ds : List PyData) (d : PyData) (ds' : List PyData) (I : Hp), vs = [V.ref a] ∧ I a = none ∧ Ex I H ∧ H a = some (.lst xs) ∧ DqAll K I xs ds ∧ heapOk ds ∧ Hq.pop dLt ds = some (d, ds') ∧
  ∀ y xs', Dq K I y d → DqAll K I xs' ds' → Q y (upd H a (.lst xs'))
def rHeapify (K : PySem.W.Frag) : List V → Hp → VK → Prop := fun vs H Q => ∃ (a : Addr) (xs : List V) (ds : List PyData) (I : Hp), vs = [V.ref a] ∧ I a = none ∧ Ex I H ∧ H a = some (.lst xs) ∧ DqAll K I xs ds ∧ heapOk ds ∧
  ∀ xs', DqAll K I xs' (Hq.heapify dLt ds) → Q .non (upd H a (.lst xs'))
theorem upd_id {H : Hp} {a : Addr} {o : HO} (h : H a = some o) : upd H a o = H := by
  funext b
  by_cases hb : b = a
  · subst hb
    rw [upd_same, h]
  · rw [upd_ne hb]
theorem zip_dq {K : PySem.W.Frag} {I : Hp} : ∀ {as : List Addr} {ds : List PyData}, DqAll K I (as.map V.ref) ds → (∀ p ∈ as.zip ds, Dq K I (.ref p.1) p.2) ∧ (as.zip ds).map Prod.fst = as ∧ (as.zip ds).map Prod.snd = ds
  | [], _, .nil => ⟨fun p hp => by simp at hp, rfl, rfl⟩
  | a :: as, d :: ds, .cons h t => by
    obtain ⟨h1, h2, h3⟩ := zip_dq t
    refine ⟨fun p hp => ?_, by simp [h2], by simp [h3]⟩
    rcases List.mem_cons.mp hp with rfl | hp
    · exact h
    · exact h1 p hp
theorem dq_map {K : PySem.W.Frag} {I : Hp} {dat : Addr → PyData} : ∀ {bs : List Addr}, (∀ b ∈ bs, Dq K I (.ref b) (dat b)) → DqAll K I (bs.map V.ref) (bs.map dat)
  | [], _ => .nil
  | b :: bs, h => .cons (h b List.mem_cons_self) (dq_map fun c hc => h c (List.mem_cons_of_mem _ hc))
theorem ref_inj : ∀ {as bs : List Addr}, as.map Value.ref = bs.map Value.ref → as = bs
  | [], [], _ => rfl
  | [], b :: bs, h => by simp at h
  | a :: as, [], h => by simp at h
  | a :: as, b :: bs, h => by
    simp only [List.map_cons, List.cons.injEq, Value.ref.injEq] at h
    rw [h.1, ref_inj h.2]
section
variable {X : Cx} {pins : List (Addr × Obj)} {σ : L2.St} {H : Hp} {I : Hp} {a : Addr} {s : Shared} {as : List Addr} {L : List (Addr × PyData)}
theorem st_start (I0 : Inv X pins σ H s) (hH : H a = some (.lst (as.map V.ref))) (hl : as.length ≤ 5000) (hm : ∀ b ∈ as, b ∈ L.map Prod.fst) : StH X pins σ H a L (as.map Value.ref) s := by
  obtain ⟨z, its, n, r, _, e⟩ := I0.lstM hH
  have := vals_refs r
  subst this
  exact ⟨as, n, rfl, hl, hm, by rw [upd_id hH]; exact I0, e⟩
theorem nat_ltV {dat : Addr → PyData} : ∀ x y, ltV dat (Value.ref x) (Value.ref y) = dLt (dat x) (dat y) := fun _ _ => rfl
theorem call_hpush (hu : X.A.units + 64 < cLine) : CallR X (.builtin "_heapq.heappush") (rHpush X.K) := by
  intro pins s σ H vs us Q I0 r h
  obtain ⟨a, xs, ds, y, d, I, rfl, hIa, ex, hH, hd, hy, hok, q⟩ := h
  obtain ⟨as, rfl⟩ := refs_of hd fun e he => hok.2.1 e (by simp [he])
  obtain ⟨bs, hb⟩ := refs_of (.cons hy .nil) fun e he => hok.2.1 e (by simp at he; simp [he])
  obtain ⟨b, rfl⟩ : ∃ b, y = .ref b := by
    cases bs with
    | nil => simp at hb
    | cons b bs => exact ⟨b, by simp at hb; exact hb.1⟩
  obtain ⟨u, v, rfl, ru, rv⟩ : ∃ u v, us = [u, v] ∧ RelV (.ref a) u ∧ RelV (.ref b) v := by
    cases r with
    | cons h1 t =>
      cases t with
      | cons h2 t2 =>
        cases t2
        exact ⟨_, _, rfl, h1, h2⟩
  cases ru
  cases rv
  obtain ⟨z1, z2, z3⟩ := zip_dq hd
  obtain ⟨dat, hdat, W⟩ := heap_ways (a := a) hu hIa ex I0 (L := (b, d) :: as.zip ds) (fun p hp => by
    rcases List.mem_cons.mp hp with rfl | hp
    · exact hy
    · exact z1 p hp) (by rw [List.map_cons, z3]; exact hok)
  have hlen : as.length ≤ 2000 := by
    have := hd.len
    have h3 := hok.2.2.1
    simp at this h3
    omega
  have hs := st_start (L := (b, d) :: as.zip ds) I0 hH (by omega) (fun c hc => by rw [List.map_cons, z2]; exact List.mem_cons_of_mem _ hc)
  refine Hm.push_call W hs (by simp) (by simp; omega) fun s' ⟨bs, n, e, h5, hm, I2, _⟩ => ?_
  rw [Hq.push_map (f := Value.ref) (lt := fun x y => dLt (dat x) (dat y)) nat_ltV] at e
  have e2 := ref_inj e
  subst e2
  refine ⟨.non, _, I2, rfl, q _ ?_⟩
  have hda : as.map dat = ds := by
    rw [← z3]
    conv => lhs; rw [← z2]
    rw [List.map_map]
    exact List.map_congr_left fun p hp => hdat p (by simp [hp])
  have e3 := Hq.push_map (f := dat) (lt' := dLt) (lt := fun x y => dLt (dat x) (dat y)) (fun _ _ => rfl) (xs := as) (x := b)
  rw [hda, hdat (b, d) (by simp)] at e3
  rw [e3]
  refine dq_map fun c hc => ?_
  obtain ⟨p, hp, rfl⟩ := List.mem_map.mp (hm c hc)
  rw [hdat p hp]
  rcases List.mem_cons.mp hp with rfl | hp
  · exact hy
  · exact z1 p hp
theorem call_hpop (hu : X.A.units + 64 < cLine) : CallR X (.builtin "_heapq.heappop") (rHpop X.K) := by
  intro pins s σ H vs us Q I0 r h
  obtain ⟨a, xs, ds, d, ds', I, rfl, hIa, ex, hH, hd, hok, hp, q⟩ := h
  obtain ⟨as, rfl⟩ := refs_of hd fun e he => hok.2.1 e he
  rw [Vals.ref1 r]
  obtain ⟨z1, z2, z3⟩ := zip_dq hd
  obtain ⟨dat, hdat, W⟩ := heap_ways (a := a) hu hIa ex I0 (L := as.zip ds) z1 (by rw [z3]; exact hok)
  have hlen : as.length ≤ 2000 := by
    have := hd.len
    have h3 := hok.2.2.1
    simp at this h3
    omega
  have hs := st_start (L := as.zip ds) I0 hH (by omega) (fun c hc => by rw [z2]; exact hc)
  have hda : as.map dat = ds := by
    rw [← z3]
    conv => lhs; rw [← z2]
    rw [List.map_map]
    exact List.map_congr_left fun p hp => hdat p hp
  have e3 := Hq.pop_map (f := dat) (lt' := dLt) (lt := fun x y => dLt (dat x) (dat y)) (fun _ _ => rfl) (xs := as)
  rw [hda, hp] at e3
  obtain ⟨⟨b, bs⟩, hpb, he⟩ := Option.map_eq_some_iff.mp e3.symm
  cases he
  have hpv := Hq.pop_map (f := Value.ref) (lt' := ltV dat) (lt := fun x y => dLt (dat x) (dat y)) nat_ltV (xs := as)
  rw [hpb] at hpv
  have mem : ∀ c ∈ as, Dq X.K I (.ref c) (dat c) := fun c hc => by
    rw [← z2] at hc
    obtain ⟨p, hp, rfl⟩ := List.mem_map.mp hc
    rw [hdat p hp]
    exact z1 p hp
  obtain ⟨m1, m2, _⟩ := Hq.pop_sub hpb
  refine Hm.pop_call W hs hpv fun s' ⟨bs', n, e, h5, hm, I2, _⟩ => ?_
  have e2 := ref_inj e
  subst e2
  exact ⟨.ref b, _, I2, rfl, q _ _ (mem b m1) (dq_map fun c hc => mem c (m2 c hc))⟩
theorem call_heapify (hu : X.A.units + 64 < cLine) : CallR X (.builtin "_heapq.heapify") (rHeapify X.K) := by
  intro pins s σ H vs us Q I0 r h
  obtain ⟨a, xs, ds, I, rfl, hIa, ex, hH, hd, hok, q⟩ := h
  obtain ⟨as, rfl⟩ := refs_of hd fun e he => hok.2.1 e he
  rw [Vals.ref1 r]
  obtain ⟨z1, z2, z3⟩ := zip_dq hd
  obtain ⟨dat, hdat, W⟩ := heap_ways (a := a) hu hIa ex I0 (L := as.zip ds) z1 (by rw [z3]; exact hok)
  have hlen : as.length ≤ 2000 := by
    have := hd.len
    have h3 := hok.2.2.1
    simp at this h3
    omega
  have hs := st_start (L := as.zip ds) I0 hH (by omega) (fun c hc => by rw [z2]; exact hc)
  have hda : as.map dat = ds := by
    rw [← z3]
    conv => lhs; rw [← z2]
    rw [List.map_map]
    exact List.map_congr_left fun p hp => hdat p hp
  have mem : ∀ c ∈ as, Dq X.K I (.ref c) (dat c) := fun c hc => by
    rw [← z2] at hc
    obtain ⟨p, hp, rfl⟩ := List.mem_map.mp hc
    rw [hdat p hp]
    exact z1 p hp
  refine Hm.heapify_call W hs (by simp; omega) fun s' ⟨bs, n, e, h5, hm, I2, _⟩ => ?_
  rw [Hq.heapify_map (f := Value.ref) (lt := fun x y => dLt (dat x) (dat y)) nat_ltV] at e
  have e2 := ref_inj e
  subst e2
  refine ⟨.non, _, I2, rfl, q _ ?_⟩
  have e3 := Hq.heapify_map (f := dat) (lt' := dLt) (lt := fun x y => dLt (dat x) (dat y)) (fun _ _ => rfl) (xs := as)
  rw [hda] at e3
  rw [e3]
  exact dq_map fun c hc => mem c (Hq.heapify_perm.subset hc)
end
/-! ### .. as functions of data -/
def gHeapify (rs : List SV) (C : CS) : Option (SV × CS) := match rs with
  | [.c n] => (cellAt C n).bind fun ds => if heapOk ds then some (.d .none, C.set n (some (Hq.heapify dLt ds))) else none
  | _ => none
def gHpop (rs : List SV) (C : CS) : Option (SV × CS) := match rs with
  | [.c n] => (cellAt C n).bind fun ds => if heapOk ds then (Hq.pop dLt ds).map fun p => (.d p.1, C.set n (some p.2)) else none
  | _ => none
def gHpush (rs : List SV) (C : CS) : Option (SV × CS) := match rs with
  | [.c n, .d d] => (cellAt C n).bind fun ds => if heapOk (d :: ds) then some (.d .none, C.set n (some (Hq.push dLt ds d))) else none
  | _ => none
theorem rl_heapify {K : PySem.W.Frag} : RLK K (rHeapify K) gHeapify := fun I C μ H w xs as r q C' e Q k => by
  unfold gHeapify at e
  split at e
  · rename_i n
    obtain ⟨ds, e1, e⟩ := Option.bind_eq_some_iff.mp e
    split at e
    · rename_i hok
      cases e
      cases r with
      | cons r1 r2 =>
        cases r2
        obtain ⟨a, ha, rfl⟩ := r1
        obtain ⟨a', vs, h1, h2, h3, h4⟩ := w.cell n ds (cellAt_of e1)
        cases h1.symm.trans ha
        exact ⟨_, vs, ds, I, rfl, h2, w.ex, h3, h4, hok, fun xs' hx => k I μ _ _ Le.refl (w.put (cellAt_of e1) ha hx) .non⟩
    · cases e
  · cases e
theorem rl_hpop {K : PySem.W.Frag} : RLK K (rHpop K) gHpop := fun I C μ H w xs as r q C' e Q k => by
  unfold gHpop at e
  split at e
  · rename_i n
    obtain ⟨ds, e1, e⟩ := Option.bind_eq_some_iff.mp e
    split at e
    · rename_i hok
      obtain ⟨⟨d, ds'⟩, e2, e⟩ := Option.map_eq_some_iff.mp e
      cases e
      cases r with
      | cons r1 r2 =>
        cases r2
        obtain ⟨a, ha, rfl⟩ := r1
        obtain ⟨a', vs, h1, h2, h3, h4⟩ := w.cell n ds (cellAt_of e1)
        cases h1.symm.trans ha
        exact ⟨_, vs, ds, d, ds', I, rfl, h2, w.ex, h3, h4, hok, e2, fun y xs' hy hx => k I μ _ _ Le.refl (w.put (cellAt_of e1) ha hx) hy⟩
    · cases e
  · cases e
theorem rl_hpush {K : PySem.W.Frag} : RLK K (rHpush K) gHpush := fun I C μ H w xs as r q C' e Q k => by
  unfold gHpush at e
  split at e
  · rename_i n d
    obtain ⟨ds, e1, e⟩ := Option.bind_eq_some_iff.mp e
    split at e
    · rename_i hok
      cases e
      cases r with
      | cons r1 r2 =>
        cases r2 with
        | cons r3 r4 =>
          cases r4
          obtain ⟨a, ha, rfl⟩ := r1
          obtain ⟨a', vs, h1, h2, h3, h4⟩ := w.cell n ds (cellAt_of e1)
          cases h1.symm.trans ha
          exact ⟨_, vs, ds, _, d, I, rfl, h2, w.ex, h3, h4, r3, hok, fun xs' hx => k I μ _ _ Le.refl (w.put (cellAt_of e1) ha hx) .non⟩
    · cases e
  · cases e
end Dn
set_option Elab.async false
set_option linter.all false
set_option maxRecDepth 100000
namespace Dn
open PySem PySem.Spec PyProof.Rows L2
open Evl (Ex Ex.refl Ex.trans Ex.new fresh_back ex_l ex_t ex_rd)
section
variable {K : PySem.W.Frag} {I J : Hp} {μ ν : List Addr} {C C1 : CS} {H H1 : Hp} {v : V} {r : SV} {xs : List PyData}
theorem rd_seq (w1 : WC K J C1 ν H1) (r1 : RV K J ν v r) (e2 : rdS r C1 = some xs) : ∃ a us, v = .ref a ∧ (SqT K H1 a us ∨ SqL K H1 a us) ∧ DqAll K J us xs := by
  cases ht : rdT r with
  | some ys =>
    have : ys = xs := by
      unfold rdT at ht
      split at ht
      · cases ht
        cases e2
        rfl
      · cases ht
    subst this
    obtain ⟨a, rfl, _, k⟩ := keepT w1 r1 ht
    obtain ⟨us, g1, g2⟩ := k J ν C1 H1 Le.refl w1
    exact ⟨a, us, rfl, .inl g1, g2⟩
  | none =>
    have e3 : rdL r C1 = some xs := by
      unfold rdS at e2
      split at e2
      · unfold rdT at ht
        simp at ht
      · exact e2
    obtain ⟨a, rfl, _, k⟩ := keepL w1 r1 e3
    obtain ⟨us, g1, g2⟩ := k J ν C1 H1 Le.refl w1 (fun p hp => by
      cases r with
      | d x => simp [pinOf] at hp
      | c n =>
        simp [pinOf] at hp
        subst hp
        exact e3
      | g i j => simp [pinOf] at hp
      | b n k => simp [pinOf] at hp)
    exact ⟨a, us, rfl, .inr g1, g2⟩
theorem rvs_of : ∀ {us : List V} {xs : List PyData}, DqAll K I us xs → RVs K I μ us (xs.map SV.d)
  | _, _, .nil => .nil
  | _, _, .cons h t => .cons h (rvs_of t)
theorem rvs_app : ∀ {vs ws : List V} {rs ss : List SV}, RVs K I μ vs rs → RVs K I μ ws ss → RVs K I μ (vs ++ ws) (rs ++ ss)
  | _, _, _, _, .nil, h => h
  | _, _, _, _, .cons a b, h => .cons a (rvs_app b h)
/-! ### *e among items -/
def dStar (f : DE) (fr : DA) : DA := fun ε C => (f ε C).bind fun (r, C1) => (rdS r C1).bind fun xs => (fr ε C1).map fun (rs, C2) => (xs.map SV.d ++ rs, C2)
theorem sa_star {te : TE} {f : DE} {t : TA} {fr : DA} (h : SE K te f) (ht : SA K t fr) : SA K (StX.tStar K te t) (dStar f fr) := fun σ H ε C μ I w s rs C' e Q q => by
  obtain ⟨⟨r, C1⟩, e1, e⟩ := Option.bind_eq_some_iff.mp e
  obtain ⟨xs, e2, e⟩ := Option.bind_eq_some_iff.mp e
  obtain ⟨⟨ss, C2⟩, e3, e⟩ := Option.map_eq_some_iff.mp e
  cases e
  refine h σ H ε C μ I w s r C1 e1 _ fun J ν H1 v l1 w1 r1 => ?_
  obtain ⟨a, us, rfl, hs, hd⟩ := rd_seq w1 r1 e2
  refine ⟨a, us, rfl, hs, ht σ H1 ε C1 ν J w1 (s.up l1) ss C' e3 _ fun L ξ H2 vs l2 w2 r2 => ?_⟩
  exact q L ξ H2 _ (l1.trans l2) w2 (rvs_app (rvs_of (hd.up l2.ex)) r2)
/-! ### x in xs -/
def flatN : PyData → Bool
  | .none => true
  | .bool _ => true
  | .int _ => true
  | .str _ => true
  | _ => false
theorem flat_dq {d : PyData} (h : Dq K I v d) (f : flatN d = true) : flatV v = true := by cases h <;> first | rfl | cases f
theorem flat_all : ∀ {us : List V} {xs : List PyData}, DqAll K I us xs → xs.all flatN = true → us.all flatV = true
  | _, _, .nil, _ => rfl
  | _, _, .cons h t, f => by
    simp only [List.all_cons, Bool.and_eq_true] at f ⊢
    exact ⟨flat_dq h f.1, flat_all t f.2⟩
theorem eq_flat {u : V} {d e : PyData} (h : Dq K I v d) (k : Dq K I u e) (fd : flatN d = true) (fe : flatN e = true) : eqV v u = PyData.eqv d e := by
  cases h <;> cases k <;> first | rfl | cases fd | cases fe | skip
  all_goals simp [eqV, PyData.eqv]
theorem any_flat {x : V} {d : PyData} (h : Dq K I x d) (fd : flatN d = true) : ∀ {us : List V} {xs : List PyData}, DqAll K I us xs → xs.all flatN = true → inV x us = xs.any fun y => PyData.eqv y d
  | _, _, .nil, _ => rfl
  | _, _, .cons a t, f => by
    simp only [List.all_cons, Bool.and_eq_true] at f
    have ih := any_flat h fd t f.2
    unfold inV at ih ⊢
    rw [List.any_cons, List.any_cons, ih, eq_flat a h f.1 fd]
def gInB (neg : Bool) (a b : SV) (C : CS) : Option (SV × CS) := match a with
  | .d x => (rdS b C).bind fun xs => if flatN x = true ∧ xs.all flatN = true then some (.d (.bool (if neg then !(xs.any fun y => PyData.eqv y x) else xs.any fun y => PyData.eqv y x)), C) else none
  | _ => none
abbrev gIn := gInB false
abbrev gNotIn := gInB true
theorem rk_inB {neg : Bool} : R2K K (rIn K neg) (gInB neg) := fun I C μ H w x y a b ra rb q C' e Q k => by
  unfold gInB at e
  split at e
  · rename_i d
    obtain ⟨xs, e1, e⟩ := Option.bind_eq_some_iff.mp e
    split at e
    · rename_i hf
      cases e
      obtain ⟨p, us, rfl, hs, hd⟩ := rd_seq w rb e1
      refine ⟨p, us, rfl, hs.symm, flat_dq ra hf.1, flat_all hd hf.2, k I μ H _ Le.refl w ?_⟩
      rw [any_flat ra hf.1 hd hf.2]
      exact Dq.bl _
    · cases e
  · cases e
theorem rk_in : R2K K (rIn K false) gIn := rk_inB
theorem rk_notIn : R2K K (rIn K true) gNotIn := rk_inB
/-! ### abs, divmod -/
def gAbs (rs : List SV) (C : CS) : Option (SV × CS) := match rs with
  | [.d (.int i)] => some (.d (.int (if i < 0 then -i else i)), C)
  | _ => none
theorem rl_abs : RLK K (fun xs H Q => ∃ i, xs = [V.int i] ∧ Q (.int (if i < 0 then -i else i)) H) gAbs := fun I C μ H w xs as r q C' e Q k => by
  unfold gAbs at e
  split at e
  · cases e
    cases r with
    | cons r1 r2 =>
      cases r2
      exact ⟨_, by rw [rv_int r1], k I μ H _ Le.refl w (Dq.int _)⟩
  · cases e
def gDivmod (rs : List SV) (C : CS) : Option (SV × CS) := match rs with
  | [.d (.int i), .d (.int j)] => if 0 < j ∧ j < 2 ^ 64 then some (.d (.tuple [.int (i / j), .int (i % j)]), C) else none
  | _ => none
theorem rl_divmod : RLK K (fun xs H Q => ∃ i j, xs = [V.int i, V.int j] ∧ CDivP i j ∧ NewT Q H [.int (i / j), .int (i % j)]) gDivmod := fun I C μ H w xs as r q C' e Q k => by
  unfold gDivmod at e
  split at e
  · split at e
    · rename_i i j hj
      cases e
      cases r with
      | cons r1 r2 =>
        cases r2 with
        | cons r3 r4 =>
          cases r4
          refine ⟨i, j, by rw [rv_int r1, rv_int r3], ⟨hj.1, PyProof.noPylong_of_log2 (wide_div (i := i) (b := 64) hj.1 (by have := hj.2; omega) (by decide) (by decide)).2⟩, fun p ob hob hp => ?_⟩
          obtain ⟨w3, l3, h3⟩ := w.newD (o := .frz ob (.tup [.int (i / j), .int (i % j)])) hp
          exact k _ _ _ _ l3 w3 (Dq.tup (SqN.of hob h3) (.cons (.int _) (.cons (.int _) .nil)))
    · cases e
  · cases e
end
/-! ### a def called by keywords alone -/
def pm {α : Type} (π : List Nat) (d : α) (xs : List α) : List α := π.map fun i => xs.getD i d
def dCallK (m : DF) (π : List Nat) (fr : DA) : DE := fun ε C => (fr ε C).bind fun (rs, C1) => if rs.length = π.length then m (pm π (.d .none) rs) C1 else none
def tDK (K : PySem.W.Frag) (m : DF) (π : List Nat) (t : TA) : TE := fun σ H Q => t σ H fun vs H1 => ∃ I C μ rs r D, WC K I C μ H1 ∧ RVs K I μ vs rs ∧ rs.length = π.length ∧ m (pm π (.d .none) rs) C = some (r, D) ∧ Thn K I μ D r Q
theorem se_callK {K : PySem.W.Frag} {m : DF} {π : List Nat} {t : TA} {fa : DA} (h : SA K t fa) : SE K (tDK K m π t) (dCallK m π fa) := fun σ H ε C μ I w s r C' e Q q => by
  obtain ⟨⟨rs, C1⟩, e1, e⟩ := Option.bind_eq_some_iff.mp e
  simp only at e
  split at e
  · rename_i hl
    exact h σ H ε C μ I w s rs C1 e1 _ fun J ν H1 vs l1 w1 r1 => ⟨J, C1, ν, rs, r, C', w1, r1, hl, e, q.up l1⟩
  · cases e
theorem vals_pm {vs : List V} {us : List Value} (h : Vals vs us) : ∀ π : List Nat, Vals (pm π .non vs) (pm π .none us)
  | [] => .nil
  | i :: π => by
    refine .cons ?_ (vals_pm h π)
    show L2.RelV (vs.getD i .non) (us.getD i .none)
    rw [List.getD_eq_getElem?_getD, List.getD_eq_getElem?_getD]
    cases hi : vs[i]? with
    | none =>
      have : us[i]? = none := by
        rw [List.getElem?_eq_none_iff] at hi ⊢
        have := h.length
        omega
      rw [this]
      rfl
    | some v =>
      obtain ⟨u, h1, h2⟩ := h.get hi
      rw [h1]
      exact h2
theorem RVs.getR {K : PySem.W.Frag} {I : Hp} {μ : List Addr} : ∀ {vs : List V} {rs : List SV} (i : Nat), RVs K I μ vs rs → RV K I μ (vs.getD i .non) (rs.getD i (.d .none))
  | _, _, i, .nil => by simp; exact Dq.non
  | _, _, 0, .cons h t => h
  | _, _, i + 1, .cons h t => by simpa using RVs.getR i t
theorem rvs_pm {K : PySem.W.Frag} {I : Hp} {μ : List Addr} {vs : List V} {rs : List SV} (h : RVs K I μ vs rs) : ∀ π : List Nat, RVs K I μ (pm π .non vs) (pm π (.d .none) rs)
  | [] => .nil
  | i :: π => .cons (RVs.getR i h) (rvs_pm h π)
/-- the keywords of a call, put in the parameters' order -/
def KwB (fd : FuncData) (ps ks : List Str) (π : List Nat) : Prop := ∀ (s : Shared) (ws : List Value), ws.length = π.length → BindsTo s fd ⟨[], ks.zip ws⟩ (ps.zip (pm π .none ws))
section
variable {X : Cx} {k : Nat} {f : Addr} {fd : FuncData} {ps ks : List Str} {π : List Nat} {m : DF} {x : Str} {p pos : Pos} {kws : List Keyword} {t : TA}
theorem pe_callDK (F : FnD X.prog X.w X.K X.mg X.base k f fd ps m) (hr : Room k X.A) (hgd : X.A.guards = some []) (hg : Gl X x) (hm : X.mg x = some (.ref f)) (hk : PySem.W.keepIn X.K (.ref f) = true) (hb : KwB fd ps ks π)
    (hkw : PK X kws t) (hdb : (x == ("__debug__" : Str)) = false := by decide) (hall : (backToKw pos (keywordEach kws X.env)).all (·.1.isSome) = true := by rfl) (hks : (backToKw pos (keywordEach kws X.env)).filterMap (·.1) = ks := by rfl)
    (hpl : ((backTo pos (starEach [] X.env)).any (·.1) || (backToKw pos (keywordEach kws X.env)).any (·.1.isNone)) = false := by rfl) :
    PE X (.Call (.Name x p) [] kws pos) (tDK X.K m π t) := by
  refine ⟨fun pins s σ H Q I h => wpAny_Call_Name_kw (ld_glob I hg hm ?_ hdb)⟩
  refine PySem.W.callWith_KW0 (h₀ := X.base) I.ok.mod.kin hk hall (thn (hkw.run pos pins s σ H _ I h) ?_) hpl
  rintro us s1 ⟨vs, H1, I1, rv, J, C, μ, rs, r, D, w1, r1, hl, em, hq⟩
  rw [hks]
  have hu : us.length = π.length := by rw [← rv.length, r1.len, hl]
  refine ⟨I1.kIn, wpAny_call (codeAny_mono (F.go X.A X.stack s1 H1 ⟨[], ks.zip us⟩ (pm π .none us) (pm π .non vs) (pm π (.d .none) rs) J C μ r D Q hr hgd I1.env0 (hb s1 us hu) (vals_pm rv π) w1 (rvs_pm r1 π) em hq) fun res s' hq => ?_)⟩
  cases res with
  | error e => exact hq.elim
  | ok fl =>
    cases fl with
    | ret u => exact I1.after hq
    | next => exact hq.elim
    | brk => exact hq.elim
    | cont => exact hq.elim
end
end Dn
set_option Elab.async false
set_option linter.all false
set_option maxRecDepth 100000
namespace Dn
open PySem PySem.Spec PyProof.Rows L2
/-! ### a written list that is drawn from, of any make -/
section
variable {S : Type} {enc : S → List PyData} {C D G : CS} {n : Nat} {q p : S}
def StAt (enc : S → List PyData) (C : CS) (n : Nat) : Prop := ∃ q, cellAt C n = some (enc q)
theorem StAt.lt (h : StAt enc C n) : n < C.length := let ⟨_, e⟩ := h; cellAt_lt e
theorem StAt.set (h : n < C.length) : StAt enc (C.set n (some (enc q))) n := ⟨q, cellAt_set h⟩
theorem StAt.app (h : StAt enc C n) : StAt enc (C ++ G) n := let ⟨q, e⟩ := h; ⟨q, by rw [cellAt_app (cellAt_lt e)]; exact e⟩
theorem StAt.eq (h : StAt enc C n) : ∃ q, C = C.set n (some (enc q)) := by
  obtain ⟨q, e⟩ := h
  refine ⟨q, ?_⟩
  refine List.ext_getElem? fun j => ?_
  by_cases hj : n = j
  · subst hj
    rw [List.getElem?_set_self (cellAt_lt e), cellAt_of e]
  · rw [List.getElem?_set_ne hj]
end
/-! ### tuple(range(n)), list(range(n)) -/
theorem rg_dq {K : PySem.W.Frag} {I : Hp} {n : Int} : DqAll K I (rgV 0 n) (rng 0 n.toNat) := by
  unfold rgV rng
  rw [Int.sub_zero]
  generalize List.range n.toNat = l
  induction l with
  | nil => exact .nil
  | cons a l ih => exact .cons (.int _) ih
def dTupRg (f : DE) : DE := fun ε C => (f ε C).bind fun (r, C1) => match r with
  | .d (.int n) => if 0 ≤ n ∧ n ≤ 10000 then some (.d (.tuple (rng 0 n.toNat)), C1) else none
  | _ => none
def dLstRg (f : DE) : DE := fun ε C => (f ε C).bind fun (r, C1) => match r with
  | .d (.int n) => if 0 ≤ n ∧ n ≤ 10000 then some (.c C1.length, C1 ++ [some (rng 0 n.toNat)]) else none
  | _ => none
theorem rg_ok {n : Int} (h : 0 ≤ n ∧ n ≤ 10000) : RgOk 0 n := RgOk.of_le (by decide) (by omega) (by decide) h.1
theorem se_lstRg {K : PySem.W.Frag} {te : TE} {f : DE} (h : SE K te f) : SE K (tLstRg (tRg1 te)) (dLstRg f) := fun σ H ε C μ I w s r C' e Q q => by
  obtain ⟨⟨x, C1⟩, e1, e⟩ := Option.bind_eq_some_iff.mp e
  refine h σ H ε C μ I w s x C1 e1 _ fun J ν H1 v l1 w1 r1 => ?_
  simp only at e
  split at e
  · split at e
    · rename_i n hn
      cases e
      refine ⟨n, rv_int r1, rg_ok hn, fun p hp => ?_⟩
      obtain ⟨w3, l3, h3⟩ := w1.newC hp (rg_dq (K := K) (n := n))
      exact q _ _ _ _ (l1.trans l3) w3 ⟨p, h3, rfl⟩
    · cases e
  · cases e
@[simp] theorem wo_tupRg {f : DE} {ε : Ev} {C : CS} {P : SV × CS → Prop} {n : Int} (h : f ε C = some (.d (.int n), C)) : Wo (dTupRg f ε C) P ↔ (0 ≤ n ∧ n ≤ 10000) ∧ P (.d (.tuple (rng 0 n.toNat)), C) := by
  unfold dTupRg
  rw [h]
  simp
/-! ### a box: two numbers -/
def box (q : Int × Int) : List PyData := [.int q.1, .int q.2]
@[simp] theorem box0 {q : Int × Int} : L2.atI (box q) 0 = some (.int q.1) := rfl
@[simp] theorem box1 {q : Int × Int} : L2.atI (box q) 1 = some (.int q.2) := rfl
@[simp] theorem boxIx0 {q : Int × Int} : L2.ixN (box q).length 0 = some 0 := rfl
@[simp] theorem boxIx1 {q : Int × Int} : L2.ixN (box q).length 1 = some 1 := rfl
@[simp] theorem boxSet0 {q : Int × Int} {z : Int} : (box q).set 0 (.int z) = box (z, q.2) := rfl
@[simp] theorem boxSet1 {q : Int × Int} {z : Int} : (box q).set 1 (.int z) = box (q.1, z) := rfl
section
variable {ε : Ev} {C : CS} {P : SV × CS → Prop} {i j : Int}
@[simp] theorem wo_abs : Wo (gAbs [.d (.int i)] C) P ↔ P (.d (.int (if i < 0 then -i else i)), C) := by simp [gAbs]
@[simp] theorem wo_divmod : Wo (gDivmod [.d (.int i), .d (.int j)] C) P ↔ (0 < j ∧ j < 2 ^ 64) ∧ P (.d (.tuple [.int (i / j), .int (i % j)]), C) := by simp [gDivmod]
@[simp] theorem wo_inT {neg : Bool} {x : PyData} {xs : List PyData} : Wo (gInB neg (.d x) (.d (.tuple xs)) C) P ↔ (flatN x = true ∧ xs.all flatN = true) ∧ P (.d (.bool (if neg then !(xs.any fun y => PyData.eqv y x) else xs.any fun y => PyData.eqv y x)), C) := by simp [gInB, rdS]
@[simp] theorem wo_inC {neg : Bool} {x : PyData} {n : Nat} : Wo (gInB neg (.d x) (.c n) C) P ↔ Wo (cellAt C n) fun xs => (flatN x = true ∧ xs.all flatN = true) ∧ P (.d (.bool (if neg then !(xs.any fun y => PyData.eqv y x) else xs.any fun y => PyData.eqv y x)), C) := by simp [gInB, rdS, rdL]
@[simp] theorem flatN_int : flatN (.int i) = true := rfl
@[simp] theorem wo_callK {m : DF} {π : List Nat} {fr : DA} : Wo (dCallK m π fr ε C) P ↔ Wo (fr ε C) fun x => x.1.length = π.length ∧ Wo (m (pm π (.d .none) x.1) x.2) P := by
  unfold dCallK
  rw [wo_bind]
  refine exists_congr fun x => and_congr_right fun _ => ?_
  simp
end
end Dn
set_option linter.all false
namespace Bn
/-! ### tales, embers, catches -/
abbrev Setg := Int × Int × Option Int
abbrev Emb := Int × Int × Int
def flameStep (beat f : Int) (s : Setg) : Int := if s.1 ≤ beat then max 0 (s.2.1 - (beat - s.1)) else f
def flame (t : List Setg) (beat : Int) : Int := t.foldl (flameStep beat) 0
def catchOf : List Setg → Int → Option Int
  | [], _ => none
  | s :: t, a => if a ≤ s.2.1 ∧ (t = [] ∨ s.1 + s.2.1 - a < (t.headD s).1) then some (s.1 + s.2.1 - a) else catchOf t a
def setOf (e : Emb) : Setg := (e.1, e.2.1, if e.2.2 = -1 then none else some e.2.2)
/-- one ember more comes to a tale -/
def taleStep (t : List Setg) (e : Emb) : List Setg := if t = [] ∨ e.2.1 < flame t e.1 then t ++ [setOf e] else t
def taleOf (es : List Emb) : List Setg := es.foldl taleStep []
/-- first by beats, then by heights, then by numbers -/
def eLe (a b : Emb) : Prop := a.1 < b.1 ∨ (a.1 = b.1 ∧ (a.2.1 < b.2.1 ∨ (a.2.1 = b.2.1 ∧ a.2.2 ≤ b.2.2)))
theorem eLe.beat {a b : Emb} (h : eLe a b) : a.1 ≤ b.1 := by unfold eLe at h; omega
/-- a tale: settings one behind the other, each below the flame -/
inductive Wf : List Setg → Prop
  | nil : Wf []
  | one {s : Setg} (h : 1 ≤ s.2.1) : Wf [s]
  | snoc {t : List Setg} {r s : Setg} (w : Wf (t ++ [r])) (h : 1 ≤ s.2.1) (b : r.1 < s.1) (f : s.2.1 < r.2.1 - (s.1 - r.1)) : Wf (t ++ [r] ++ [s])
theorem snoc_inj {α : Type} {t t' : List α} {s s' : α} (h : t ++ [s] = t' ++ [s']) : t = t' ∧ s = s' := by
  have := List.append_inj' h rfl
  exact ⟨this.1, by simpa using this.2⟩
theorem Wf.cases' {t : List Setg} {s : Setg} (h : Wf (t ++ [s])) : 1 ≤ s.2.1 ∧ (t = [] ∨ ∃ t' r, t = t' ++ [r] ∧ Wf t ∧ r.1 < s.1 ∧ s.2.1 < r.2.1 - (s.1 - r.1)) := by
  generalize hu : t ++ [s] = u at h
  cases h with
  | nil => simp at hu
  | one h =>
    rename_i s'
    have : [] ++ [s'] = [s'] := rfl
    rw [← this] at hu
    obtain ⟨rfl, rfl⟩ := snoc_inj hu
    exact ⟨h, .inl rfl⟩
  | snoc w h b f =>
    obtain ⟨rfl, rfl⟩ := snoc_inj hu
    exact ⟨h, .inr ⟨_, _, rfl, w, b, f⟩⟩
theorem Wf.init {t : List Setg} {s : Setg} (h : Wf (t ++ [s])) : Wf t := by
  rcases h.cases'.2 with rfl | ⟨_, _, _, w, _⟩
  · exact .nil
  · exact w
theorem flame_snoc {t : List Setg} {s : Setg} {b : Int} : flame (t ++ [s]) b = if s.1 ≤ b then max 0 (s.2.1 - (b - s.1)) else flame t b := by
  unfold flame
  rw [List.foldl_append]
  rfl
theorem snoc_or {α : Type} (t : List α) : t = [] ∨ ∃ u s, t = u ++ [s] := by
  cases h : t.reverse with
  | nil => exact .inl (by simpa using h)
  | cons s u => exact .inr ⟨u.reverse, s, by rw [← List.reverse_reverse t, h]; simp⟩
theorem snoc_ind {α : Type} {P : List α → Prop} (h0 : P []) (h1 : ∀ t s, P t → P (t ++ [s])) (t : List α) : P t := by
  rw [← List.reverse_reverse t]
  induction t.reverse with
  | nil => exact h0
  | cons s u ih =>
    rw [List.reverse_cons]
    exact h1 _ _ ih
/-- all settings are ahead of the last one -/
theorem Wf.last_max {t : List Setg} {s : Setg} (h : Wf (t ++ [s])) : ∀ r ∈ t, r.1 < s.1 := by
  induction t using snoc_ind generalizing s with
  | h0 => intro r hr; simp at hr
  | h1 t q ih =>
    rcases h.cases'.2 with e | ⟨t', r', e, w, b, f⟩
    · simp at e
    · obtain ⟨rfl, rfl⟩ := snoc_inj e
      intro r hr
      rcases List.mem_append.mp hr with hr | hr
      · have := ih w r hr
        omega
      · rw [List.mem_singleton.mp hr]
        exact b
theorem Wf.beats {t u : List Setg} {s : Setg} (h : Wf (t ++ s :: u)) : (∀ r ∈ t, r.1 < s.1) ∧ ∀ r ∈ u, s.1 < r.1 := by
  induction u using snoc_ind with
  | h0 => exact ⟨h.last_max, fun r hr => by simp at hr⟩
  | h1 u q ih =>
    have e : t ++ s :: (u ++ [q]) = (t ++ s :: u) ++ [q] := by simp
    rw [e] at h
    obtain ⟨h1, h2⟩ := ih h.init
    refine ⟨h1, fun r hr => ?_⟩
    rcases List.mem_append.mp hr with hr | hr
    · exact h2 r hr
    · rw [List.mem_singleton.mp hr]
      exact h.last_max s (by simp)
theorem Wf.high {t : List Setg} (h : Wf t) : ∀ s ∈ t, 1 ≤ s.2.1 := by
  induction t using snoc_ind with
  | h0 => intro r hr; simp at hr
  | h1 t q ih =>
    intro r hr
    rcases List.mem_append.mp hr with hr | hr
    · exact ih h.init r hr
    · rw [List.mem_singleton.mp hr]
      exact h.cases'.1
/-- ahead of all settings there is no flame -/
theorem flame_ahead {t : List Setg} {b : Int} (h : ∀ s ∈ t, b < s.1) : flame t b = 0 := by
  induction t using snoc_ind with
  | h0 => rfl
  | h1 t q ih =>
    rw [flame_snoc, if_neg (by have := h q (by simp); omega)]
    exact ih fun s hs => h s (by simp [hs])
/-- a flame hangs on what is up to its beat alone -/
def upto (b : Int) (t : List Setg) : List Setg := t.filter fun s => decide (s.1 ≤ b)
theorem flame_upto {t : List Setg} {b c : Int} (h : b ≤ c) : flame (upto c t) b = flame t b := by
  induction t using snoc_ind with
  | h0 => rfl
  | h1 t q ih =>
    unfold upto at *
    rw [List.filter_append, flame_snoc]
    by_cases hq : q.1 ≤ c
    · rw [List.filter_cons_of_pos (by simpa using hq), List.filter_nil, flame_snoc, ih]
    · rw [List.filter_cons_of_neg (by simpa using hq), List.filter_nil, List.append_nil, ih, if_neg (by omega)]
/-- from beat to beat a flame is never higher -/
theorem Wf.anti {t : List Setg} (w : Wf t) {b c : Int} (hbc : b ≤ c) (hs : ∃ s ∈ t, s.1 ≤ b) : flame t c ≤ max 0 (flame t b - (c - b)) := by
  induction t using snoc_ind with
  | h0 => obtain ⟨s, h, _⟩ := hs; simp at h
  | h1 t q ih =>
    rw [flame_snoc, flame_snoc]
    by_cases h1 : q.1 ≤ b
    · rw [if_pos h1, if_pos (by omega)]
      omega
    · rw [if_neg h1]
      obtain ⟨s, hm, hb⟩ := hs
      rcases List.mem_append.mp hm with hm | hm
      · have hi := ih w.init ⟨s, hm, hb⟩
        by_cases h2 : q.1 ≤ c
        · rw [if_pos h2]
          rcases w.cases'.2 with rfl | ⟨t', r, rfl, w', br, fr⟩
          · simp at hm
          · have hb2 : r.1 ≤ b ∨ b < r.1 := by omega
            have hh := w.cases'.1
            rcases hb2 with hb2 | hb2
            · rw [flame_snoc, if_pos hb2]
              omega
            · have hq2 := ih w'  ⟨s, hm, hb⟩
              rw [flame_snoc] at hq2
              by_cases h3 : r.1 ≤ c
              · rw [if_pos h3] at hq2
                omega
              · omega
        · rw [if_neg h2]
          exact hi
      · rw [List.mem_singleton.mp hm] at hb
        omega
theorem flame_lit {t : List Setg} {b : Int} (h : 1 ≤ flame t b) : ∃ s ∈ t, s.1 ≤ b := by
  by_cases hs : ∃ s ∈ t, s.1 ≤ b
  · exact hs
  · have := flame_ahead (t := t) (b := b) fun s hm => by
      by_cases hb : s.1 ≤ b
      · exact (hs ⟨s, hm, hb⟩).elim
      · omega
    omega
/-- a height is that of a flame in one beat at the most -/
theorem Wf.once {t : List Setg} (w : Wf t) {b c a : Int} (ha : 1 ≤ a) (hb : flame t b = a) (hc : flame t c = a) : b = c := by
  have lb := flame_lit (t := t) (b := b) (by omega)
  have lc := flame_lit (t := t) (b := c) (by omega)
  rcases Int.lt_trichotomy b c with h | h | h
  · have := w.anti (Int.le_of_lt h) lb
    omega
  · exact h
  · have := w.anti (Int.le_of_lt h) lc
    omega
theorem catch_cons {s : Setg} {t : List Setg} {a : Int} : catchOf (s :: t) a = if a ≤ s.2.1 ∧ (t = [] ∨ s.1 + s.2.1 - a < (t.headD s).1) then some (s.1 + s.2.1 - a) else catchOf t a := rfl
theorem Wf.tail {s : Setg} {t : List Setg} (w : Wf (s :: t)) : Wf t ∧ ∀ r, t.head? = some r → s.1 < r.1 ∧ r.2.1 < s.2.1 - (r.1 - s.1) := by
  induction t using snoc_ind with
  | h0 => exact ⟨.nil, fun r h => by simp at h⟩
  | h1 t q ih =>
    have e : s :: (t ++ [q]) = (s :: t) ++ [q] := rfl
    rw [e] at w
    obtain ⟨h1, h2⟩ := ih w.init
    rcases w.cases' with ⟨hq, h | ⟨t', r, h, w', b, f⟩⟩
    · simp at h
    · rcases snoc_or t with rfl | ⟨u, p, rfl⟩
      · have : [] ++ [s] = t' ++ [r] := h
        obtain ⟨rfl, rfl⟩ := snoc_inj this
        refine ⟨.one hq, fun r hr => ?_⟩
        simp at hr
        subst hr
        exact ⟨b, f⟩
      · have e2 : (s :: u) ++ [p] = t' ++ [r] := h
        obtain ⟨rfl, rfl⟩ := snoc_inj e2
        refine ⟨.snoc h1 hq b f, fun r hr => h2 r ?_⟩
        rw [List.head?_append] at hr ⊢
        simpa using hr
theorem flame_cons {s : Setg} {t : List Setg} {b : Int} : flame (s :: t) b = if ∃ r ∈ t, r.1 ≤ b then flame t b else flameStep b 0 s := by
  induction t using snoc_ind with
  | h0 => simp; rfl
  | h1 t q ih =>
    have e : s :: (t ++ [q]) = (s :: t) ++ [q] := rfl
    rw [e, flame_snoc, flame_snoc, ih]
    by_cases hq : q.1 ≤ b
    · rw [if_pos hq, if_pos ⟨q, by simp, hq⟩, if_pos hq]
    · rw [if_neg hq]
      by_cases hr : ∃ r ∈ t, r.1 ≤ b
      · obtain ⟨r, hr1, hr2⟩ := hr
        rw [if_pos ⟨r, hr1, hr2⟩, if_pos ⟨r, by simp [hr1], hr2⟩, if_neg hq]
      · rw [if_neg hr, if_neg]
        rintro ⟨r, hr1, hr2⟩
        rcases List.mem_append.mp hr1 with h | h
        · exact hr ⟨r, h, hr2⟩
        · rw [List.mem_singleton.mp h] at hr2
          omega
/-- a cord's beat is the one in which the flame is at its height -/
theorem Wf.catch_iff {a : Int} (ha : 1 ≤ a) : ∀ {t : List Setg} {b : Int}, Wf t → (catchOf t a = some b ↔ flame t b = a)
  | [], b, _ => by
    have : flame [] b = 0 := rfl
    rw [this]
    simp [catchOf]
    omega
  | s :: t, b, w => by
    obtain ⟨w2, hd⟩ := w.tail
    have bt : ∀ r ∈ t, s.1 < r.1 := (Wf.beats (t := []) w).2
    rw [catch_cons, flame_cons]
    cases t with
    | nil =>
      have he : (∃ r ∈ ([] : List Setg), r.1 ≤ b) ↔ False := by simp
      simp only [he, if_false, true_or, and_true]
      unfold flameStep catchOf
      by_cases h1 : a ≤ s.2.1
      · rw [if_pos h1]
        by_cases h2 : s.1 ≤ b
        · rw [if_pos h2]
          simp
          omega
        · rw [if_neg h2]
          simp
          omega
      · rw [if_neg h1]
        simp
        split <;> omega
    | cons q t =>
      obtain ⟨hq1, hq2⟩ := hd q rfl
      have bq : ∀ r ∈ t, q.1 < r.1 := (Wf.beats (t := []) w2).2
      have hex : (∃ r ∈ q :: t, r.1 ≤ b) ↔ q.1 ≤ b := by
        constructor
        · rintro ⟨r, hr, hb⟩
          rcases List.mem_cons.mp hr with rfl | hr
          · exact hb
          · have := bq r hr
            omega
        · exact fun h => ⟨q, by simp, h⟩
      simp only [hex]
      have ih := Wf.catch_iff (b := b) ha w2
      have hno : s.1 + s.2.1 - a < q.1 → ∀ c, catchOf (q :: t) a = some c → False := fun h c hc => by
        have h1 := (Wf.catch_iff (b := c) ha w2).mp hc
        have h2 : flame (q :: t) c ≤ max 0 (flame (q :: t) q.1 - (c - q.1)) := by
          obtain ⟨r, hr, hb⟩ := flame_lit (t := q :: t) (b := c) (by omega)
          refine w2.anti ?_ ⟨q, by simp, Int.le_refl _⟩
          rcases List.mem_cons.mp hr with rfl | hr
          · exact hb
          · have := bq r hr
            omega
        have h3 : flame (q :: t) q.1 = max 0 q.2.1 := by
          rw [flame_cons, if_neg]
          · unfold flameStep
            rw [if_pos (Int.le_refl _)]
            omega
          · rintro ⟨r, hr, hb⟩
            have := bq r hr
            omega
        obtain ⟨r, hr, hb⟩ := flame_lit (t := q :: t) (b := c) (by omega)
        have hqc : q.1 ≤ c := by
          rcases List.mem_cons.mp hr with rfl | hr
          · exact hb
          · have := bq r hr
            omega
        omega
      simp only [List.headD_cons, List.cons_ne_nil, false_or]
      by_cases h1 : a ≤ s.2.1 ∧ s.1 + s.2.1 - a < q.1
      · rw [if_pos h1]
        by_cases h2 : q.1 ≤ b
        · rw [if_pos h2]
          constructor
          · intro h
            cases h
            omega
          · intro h
            exact (hno h1.2 b (ih.mpr h)).elim
        · rw [if_neg h2]
          unfold flameStep
          split
          · simp
            omega
          · simp
            omega
      · rw [if_neg h1, ih]
        by_cases h2 : q.1 ≤ b
        · rw [if_pos h2]
        · rw [if_neg h2]
          have h3 : flame (q :: t) b = 0 := flame_ahead fun r hr => by
            rcases List.mem_cons.mp hr with rfl | hr
            · omega
            · have := bq r hr
              omega
          rw [h3]
          unfold flameStep
          split <;> omega
/-! ### a tale is what its embers make of it -/
structure Made (E : Emb → Prop) (t : List Setg) : Prop where
  wf : Wf t
  made : ∀ s ∈ t, ∃ e, E e ∧ s = setOf e ∧ ∀ e', E e' → e'.1 = e.1 → eLe e e'
  met : ∀ e, E e → (∃ s ∈ t, s.1 ≤ e.1) ∧ flame t e.1 ≤ e.2.1
theorem Made.nil {E : Emb → Prop} (h : ∀ e, ¬ E e) : Made E [] := ⟨.nil, fun s hs => by simp at hs, fun e he => (h e he).elim⟩
theorem Made.congr {E F : Emb → Prop} {t : List Setg} (h : ∀ e, E e ↔ F e) (m : Made E t) : Made F t := by
  have : E = F := funext fun e => propext (h e)
  exact this ▸ m
/-- one ember more, behind all that came -/
theorem Made.step {E : Emb → Prop} {t : List Setg} (m : Made E t) {e : Emb} (h1 : 1 ≤ e.2.1) (hle : ∀ e', E e' → eLe e' e) : Made (fun x => E x ∨ x = e) (taleStep t e) := by
  have beats : ∀ s ∈ t, s.1 ≤ e.1 := fun s hs => by
    obtain ⟨e', he', rfl, _⟩ := m.made s hs
    exact (hle e' he').beat
  unfold taleStep
  split
  · rename_i hc
    -- nothing came in this beat that is as low: else the flame would be as low
    have hno : ∀ e', E e' → e'.1 = e.1 → False := fun e' he' hb => by
      obtain ⟨⟨s, hs, _⟩, hf⟩ := m.met e' he'
      rcases hc with rfl | hc
      · simp at hs
      · rw [hb] at hf
        have := hle e' he'
        unfold eLe at this
        omega
    have hlt : ∀ e', E e' → e'.1 < e.1 := fun e' he' => by
      have h1 := (hle e' he').beat
      by_cases h2 : e'.1 = e.1
      · exact (hno e' he' h2).elim
      · omega
    have beats' : ∀ s ∈ t, s.1 < e.1 := fun s hs => by
      obtain ⟨e', he', rfl, _⟩ := m.made s hs
      exact hlt e' he'
    refine ⟨?_, fun s hs => ?_, fun x hx => ?_⟩
    · rcases snoc_or t with rfl | ⟨u, r, rfl⟩
      · exact .one h1
      · refine .snoc m.wf h1 (beats' r (by simp)) ?_
        rcases hc with hc | hc
        · simp at hc
        · rw [flame_snoc, if_pos (beats r (by simp))] at hc
          simp only [setOf]
          omega
    · rcases List.mem_append.mp hs with hs | hs
      · obtain ⟨e', he', rfl, hm⟩ := m.made s hs
        refine ⟨e', .inl he', rfl, fun x hx hxb => ?_⟩
        rcases hx with hx | rfl
        · exact hm x hx hxb
        · exact .inl (hlt e' he')
      · rw [List.mem_singleton.mp hs]
        refine ⟨e, .inr rfl, rfl, fun x hx hxb => ?_⟩
        rcases hx with hx | rfl
        · exact (hno x hx hxb).elim
        · exact .inr ⟨rfl, .inr ⟨rfl, Int.le_refl _⟩⟩
    · rcases hx with hx | rfl
      · obtain ⟨⟨s, hs, hb⟩, hf⟩ := m.met x hx
        refine ⟨⟨s, by simp [hs], hb⟩, ?_⟩
        rw [flame_snoc, if_neg (by have := hlt x hx; simp [setOf]; omega)]
        exact hf
      · refine ⟨⟨setOf x, by simp, Int.le_refl _⟩, ?_⟩
        rw [flame_snoc, if_pos (show (setOf x).1 ≤ x.1 from Int.le_refl _)]
        simp only [setOf]
        omega
  · rename_i hc
    refine ⟨m.wf, fun s hs => ?_, fun x hx => ?_⟩
    · obtain ⟨e', he', rfl, hm⟩ := m.made s hs
      refine ⟨e', .inl he', rfl, fun x hx hxb => ?_⟩
      rcases hx with hx | rfl
      · exact hm x hx hxb
      · exact hle e' he'
    · rcases hx with hx | rfl
      · exact m.met x hx
      · have hne : t ≠ [] := fun h => hc (.inl h)
        have hfl : ¬ x.2.1 < flame t x.1 := fun h => hc (.inr h)
        obtain ⟨s, hs⟩ := List.exists_mem_of_ne_nil t hne
        exact ⟨⟨s, hs, beats s hs⟩, by omega⟩
/-- the embers that came in their order -/
theorem made_fold : ∀ (es : List Emb) (E : Emb → Prop) (t : List Setg), Made E t → (∀ e ∈ es, 1 ≤ e.2.1) → es.Pairwise eLe → (∀ e', E e' → ∀ e ∈ es, eLe e' e) → Made (fun x => E x ∨ x ∈ es) (es.foldl taleStep t)
  | [], E, t, m, _, _, _ => m.congr fun e => by simp
  | e :: es, E, t, m, h1, hp, hle => by
    have := made_fold es _ _ (m.step (h1 e (by simp)) fun e' he' => hle e' he' e (by simp)) (fun x hx => h1 x (by simp [hx])) (List.pairwise_cons.mp hp).2 fun e' he' x hx => by
      rcases he' with he' | rfl
      · exact hle e' he' x (by simp [hx])
      · exact (List.pairwise_cons.mp hp).1 x hx
    exact this.congr fun x => by
      simp only [List.mem_cons]
      constructor
      · rintro ((h | h) | h)
        · exact .inl h
        · exact .inr (.inl h)
        · exact .inr (.inr h)
      · rintro (h | h | h)
        · exact .inl (.inl h)
        · exact .inl (.inr h)
        · exact .inr h
theorem made_of {es : List Emb} (h1 : ∀ e ∈ es, 1 ≤ e.2.1) (hp : es.Pairwise eLe) : Made (fun x => x ∈ es) (taleOf es) :=
  (made_fold es (fun _ => False) [] (.nil fun _ h => h) h1 hp fun _ h => h.elim).congr fun x => by simp
theorem setOf_beat {e : Emb} : (setOf e).1 = e.1 := rfl
theorem setOf_high {e : Emb} : (setOf e).2.1 = e.2.1 := rfl
theorem eLe.anti {a b : Emb} (h : eLe a b) (k : eLe b a) : a = b := by
  unfold eLe at h k
  refine Prod.ext ?_ (Prod.ext ?_ ?_) <;> omega
/-- in a beat in which the embers are alike, and what is ahead is alike, the tales are alike -/
theorem Made.same {E F : Emb → Prop} {t u : List Setg} {b : Int} (m : Made E t) (n : Made F u) (hEF : ∀ e, e.1 ≤ b → (E e ↔ F e)) (hp : upto (b - 1) t = upto (b - 1) u) : upto b t = upto b u := by
  have cut : ∀ {E : Emb → Prop} {t : List Setg}, Made E t → (upto b t = upto (b - 1) t ∧ ∀ s ∈ t, s.1 ≠ b) ∨ ∃ s ∈ t, s.1 = b ∧ upto b t = upto (b - 1) t ++ [s] ∧ (upto (b - 1) t = [] ∨ s.2.1 < flame (upto (b - 1) t) b) := by
    intro E t m
    by_cases h : ∃ s ∈ t, s.1 = b
    · obtain ⟨s, hs, hb⟩ := h
      obtain ⟨v, w, rfl⟩ := List.append_of_mem hs
      obtain ⟨h1, h2⟩ := m.wf.beats
      have e1 : upto b (v ++ s :: w) = v ++ [s] := by
        unfold upto
        rw [List.filter_append, List.filter_eq_self.mpr fun r hr => by have := h1 r hr; simp; omega, List.filter_cons_of_pos (by simp; omega), List.filter_eq_nil_iff.mpr fun r hr => by have := h2 r hr; simp; omega]
      have e2 : upto (b - 1) (v ++ s :: w) = v := by
        unfold upto
        rw [List.filter_append, List.filter_eq_self.mpr fun r hr => by have := h1 r hr; simp; omega, List.filter_cons_of_neg (by simp; omega), List.filter_eq_nil_iff.mpr fun r hr => by have := h2 r hr; simp; omega, List.append_nil]
      refine .inr ⟨s, hs, hb, by rw [e1, e2], ?_⟩
      rw [e2]
      have w2 : Wf (v ++ [s]) := by
        have hw := m.wf
        have : ∀ w, Wf (v ++ s :: w) → Wf (v ++ [s]) := by
          intro w
          induction w using snoc_ind with
          | h0 => exact id
          | h1 w q ih =>
            intro h
            refine ih ?_
            have e : v ++ s :: (w ++ [q]) = (v ++ s :: w) ++ [q] := by simp
            rw [e] at h
            exact h.init
        exact this w hw
      rcases w2.cases'.2 with rfl | ⟨v', r, rfl, _, br, fr⟩
      · exact .inl rfl
      · right
        rw [flame_snoc, if_pos (by omega), ← hb]
        omega
    · refine .inl ⟨?_, fun s hs hb => h ⟨s, hs, hb⟩⟩
      unfold upto
      refine List.filter_congr fun s hs => ?_
      have : s.1 ≠ b := fun hb => h ⟨s, hs, hb⟩
      simp
      omega
  have key : ∀ {E F : Emb → Prop} {t u : List Setg}, Made E t → Made F u → (∀ e, e.1 ≤ b → (E e → F e)) → upto (b - 1) t = upto (b - 1) u → ∀ s ∈ t, s.1 = b → (upto (b - 1) t = [] ∨ s.2.1 < flame (upto (b - 1) t) b) → (∀ s ∈ u, s.1 ≠ b) → upto b u = upto (b - 1) u → False := by
    intro E F t u m n hEF hp s hs hb hc hno hu
    obtain ⟨e, he, rfl, _⟩ := m.made s hs
    have hb' : e.1 = b := hb
    obtain ⟨⟨r, hr, hrb⟩, hf⟩ := n.met e (hEF e (by omega) he)
    rw [hb', ← flame_upto (Int.le_refl b), hu, ← hp] at hf
    rcases hc with hc | hc
    · have : r ∈ upto (b - 1) u := by
        unfold upto
        have := hno r hr
        exact List.mem_filter.mpr ⟨hr, by simp; omega⟩
      rw [← hp, hc] at this
      simp at this
    · simp only [setOf_high] at hc
      omega
  rcases cut m with ⟨e1, n1⟩ | ⟨s, hs, hb, e1, c1⟩ <;> rcases cut n with ⟨e2, n2⟩ | ⟨r, hr, hb2, e2, c2⟩
  · rw [e1, e2, hp]
  · exact (key n m (fun e h => (hEF e h).mpr) hp.symm r hr hb2 c2 n1 e1).elim
  · exact (key m n (fun e h => (hEF e h).mp) hp s hs hb c1 n2 e2).elim
  · rw [e1, e2, hp]
    obtain ⟨e, he, rfl, hm⟩ := m.made s hs
    obtain ⟨f, hf, rfl, hn⟩ := n.made r hr
    have hb' : e.1 = b := hb
    have hb2' : f.1 = b := hb2
    have : e = f := eLe.anti (hm f ((hEF f (by omega)).mpr hf) (by omega)) (hn e ((hEF e (by omega)).mp he) (by omega))
    rw [this]
/-- by beats -/
theorem beats_ind {P : Int → Prop} {b0 : Int} (h0 : ∀ b, b < b0 → P b) (hs : ∀ b, P (b - 1) → P b) : ∀ b, P b := by
  have : ∀ n : Nat, P (b0 - 1 + n) := by
    intro n
    induction n with
    | zero => exact h0 _ (by omega)
    | succ n ih => exact hs _ (by rw [show b0 - 1 + ((n + 1 : Nat) : Int) - 1 = b0 - 1 + n by omega]; exact ih)
  intro b
  by_cases h : b < b0
  · exact h0 b h
  · have := this (b - b0 + 1).toNat
    rwa [show b0 - 1 + ((b - b0 + 1).toNat : Int) = b by omega] at this
theorem upto_all {t : List Setg} {b : Int} (h : ∀ s ∈ t, s.1 ≤ b) : upto b t = t := List.filter_eq_self.mpr fun s hs => by simpa using h s hs
theorem bound_of (t : List Setg) : ∃ b : Int, ∀ s ∈ t, s.1 ≤ b := by
  induction t with
  | nil => exact ⟨0, fun s h => by simp at h⟩
  | cons s t ih =>
    obtain ⟨b, h⟩ := ih
    refine ⟨max b s.1, fun r hr => ?_⟩
    rcases List.mem_cons.mp hr with rfl | hr
    · omega
    · have := h r hr
      omega
theorem eq_of_upto {t u : List Setg} (h : ∀ b, upto b t = upto b u) : t = u := by
  obtain ⟨b, hb⟩ := bound_of t
  obtain ⟨c, hc⟩ := bound_of u
  have := h (max b c)
  rwa [upto_all fun s hs => by have := hb s hs; omega, upto_all fun s hs => by have := hc s hs; omega] at this
theorem lower_of (t : List Setg) : ∃ b : Int, ∀ s ∈ t, b ≤ s.1 := by
  induction t with
  | nil => exact ⟨0, fun s h => by simp at h⟩
  | cons s t ih =>
    obtain ⟨b, h⟩ := ih
    refine ⟨min b s.1, fun r hr => ?_⟩
    rcases List.mem_cons.mp hr with rfl | hr
    · omega
    · have := h r hr
      omega
theorem upto_none {t : List Setg} {b : Int} (h : ∀ s ∈ t, b < s.1) : upto b t = [] := List.filter_eq_nil_iff.mpr fun s hs => by have := h s hs; simp; omega
/-- the same embers make one tale -/
theorem Made.uniq {E : Emb → Prop} {t u : List Setg} (m : Made E t) (n : Made E u) : t = u := by
  obtain ⟨b, hb⟩ := lower_of t
  obtain ⟨c, hc⟩ := lower_of u
  refine eq_of_upto (beats_ind (b0 := min b c) (fun d hd => ?_) fun d h => m.same n (fun _ _ => Iff.rfl) h)
  rw [upto_none fun s hs => by have := hb s hs; omega, upto_none fun s hs => by have := hc s hs; omega]
end Bn
set_option linter.all false
namespace Bn
abbrev Cord := Int × Int × Int × Int × Int
abbrev Lgt := Int × Int
abbrev Cord.one (c : Cord) : Int := c.1
abbrev Cord.at_ (c : Cord) : Int := c.2.1
abbrev Cord.oth (c : Cord) : Int := c.2.2.1
abbrev Cord.to (c : Cord) : Int := c.2.2.2.1
abbrev Cord.lng (c : Cord) : Int := c.2.2.2.2
abbrev Tales := List (List Setg)
def taleAt (T : Tales) (x : Int) : List Setg := T.getD x.toNat []
def topOf (ts : List Int) (x : Int) : Int := ts.getD x.toNat 0
structure CordOk (ts : List Int) (c : Cord) : Prop where
  one0 : 0 ≤ c.one
  one1 : c.one < ts.length
  at0 : 1 ≤ c.at_
  at1 : c.at_ ≤ topOf ts c.one - 1
  oth0 : 0 ≤ c.oth
  oth1 : c.oth < ts.length
  to0 : 1 ≤ c.to
  to1 : c.to ≤ topOf ts c.oth
  lng : 1 ≤ c.lng
structure HouseOk (ts : List Int) (cs : List Cord) : Prop where
  top : ∀ t ∈ ts, 1 ≤ t
  cord : ∀ c ∈ cs, CordOk ts c
def LightsOk (ts : List Int) (ls : List Lgt) : Prop := ∀ l ∈ ls, 0 ≤ l.1 ∧ l.1 < ts.length ∧ 0 ≤ l.2
/-- the embers that come to a candle, by these tales -/
def Ember (ts : List Int) (cs : List Cord) (ls : List Lgt) (T : Tales) (x : Int) (e : Emb) : Prop :=
  (∃ l ∈ ls, l.1 = x ∧ e = (l.2, topOf ts x, -1)) ∨ ∃ (i : Nat) (c : Cord), cs[i]? = some c ∧ c.oth = x ∧ flame (taleAt T c.one) (e.1 - c.lng) = c.at_ ∧ e.2.1 = c.to ∧ e.2.2 = i
structure IsTales (ts : List Int) (cs : List Cord) (ls : List Lgt) (T : Tales) : Prop where
  len : T.length = ts.length
  made : ∀ x : Int, 0 ≤ x → x < ts.length → Made (Ember ts cs ls T x) (taleAt T x)
/-- there is one table at the most -/
theorem IsTales.uniq {ts : List Int} {cs : List Cord} {ls : List Lgt} {T U : Tales} (h : HouseOk ts cs) (m : IsTales ts cs ls T) (n : IsTales ts cs ls U) : T = U := by
  have key : ∀ b x : Int, 0 ≤ x → x < ts.length → upto b (taleAt T x) = upto b (taleAt U x) := by
    obtain ⟨b, hb⟩ := lower_of (T.flatten ++ U.flatten)
    refine beats_ind (b0 := b) (fun d hd x x0 x1 => ?_) fun d ih x x0 x1 => ?_
    · have sub : ∀ {W : Tales}, W.length = ts.length → ∀ s ∈ taleAt W x, s ∈ W.flatten := fun {W} hW s hs => by
        unfold taleAt at hs
        rw [List.getD_eq_getElem?_getD, List.getElem?_eq_getElem (by omega)] at hs
        exact List.mem_flatten.mpr ⟨_, List.getElem_mem _, hs⟩
      rw [upto_none fun s hs => by have := hb s (List.mem_append_left _ (sub m.len s hs)); omega, upto_none fun s hs => by have := hb s (List.mem_append_right _ (sub n.len s hs)); omega]
    · refine (m.made x x0 x1).same (n.made x x0 x1) (fun e he => ?_) (ih x x0 x1)
      have fl : ∀ c ∈ cs, flame (taleAt T c.one) (e.1 - c.lng) = flame (taleAt U c.one) (e.1 - c.lng) := fun c hc => by
        have k := h.cord c hc
        have := k.lng
        rw [← flame_upto (c := d - 1) (by omega), ih _ k.one0 k.one1, flame_upto (by omega)]
      unfold Ember
      refine or_congr Iff.rfl (exists_congr fun i => exists_congr fun c => and_congr_right fun hc => ?_)
      rw [fl c (List.mem_of_getElem? hc)]
  refine List.ext_getElem (m.len.trans n.len.symm) fun i h1 h2 => ?_
  have := eq_of_upto fun b => key b i (by omega) (by have := m.len; omega)
  simpa [taleAt, List.getD_eq_getElem?_getD, h1, h2] using this
/-! ### going from ember to ember -/
abbrev PE := Int × Int × Int × Int
def lex (p q : PE) : Prop := p.1 < q.1 ∨ (p.1 = q.1 ∧ (p.2.1 < q.2.1 ∨ (p.2.1 = q.2.1 ∧ (p.2.2.1 < q.2.2.1 ∨ (p.2.2.1 = q.2.2.1 ∧ p.2.2.2 < q.2.2.2)))))
instance {p q : PE} : Decidable (lex p q) := by unfold lex; exact inferInstance
def peLt (p q : PE) : Bool := decide (lex p q)
def pLe (p q : PE) : Prop := ¬ lex q p
theorem le_iff {p q : PE} : Hq.le peLt p q ↔ pLe p q := by simp [Hq.le, peLt, pLe]
theorem peOrd : Hq.Ord peLt where
  asy := fun x y h => by
    simp only [peLt, decide_eq_true_eq, decide_eq_false_iff_not] at h ⊢
    unfold lex at *
    omega
  tr := fun x y z h k => by
    rw [le_iff] at *
    unfold pLe lex at *
    omega
theorem pLe.trans {p q r : PE} (h : pLe p q) (k : pLe q r) : pLe p r := by
  unfold pLe lex at *
  omega
theorem pLe.refl {p : PE} : pLe p p := by
  unfold pLe lex
  omega
theorem pLe.beat {p q : PE} (h : pLe p q) : p.1 ≤ q.1 := by
  unfold pLe lex at *
  omega
theorem pLe.of_beat {p q : PE} (h : p.1 < q.1) : pLe p q := by
  unfold pLe lex at *
  omega
theorem pLe.anti {p q : PE} (h : pLe p q) (k : pLe q p) : p = q := by
  unfold pLe lex at *
  refine Prod.ext ?_ (Prod.ext ?_ (Prod.ext ?_ ?_)) <;> omega
def pe (x : Int) (e : Emb) : PE := (e.1, x, e.2.1, e.2.2)
theorem pLe.emb {x : Int} {e f : Emb} (h : pLe (pe x e) (pe x f)) : eLe e f := by
  unfold eLe
  by_cases h1 : e.1 < f.1
  · exact .inl h1
  by_cases h2 : f.1 < e.1
  · exact (h (.inl h2)).elim
  have h3 : e.1 = f.1 := by omega
  refine .inr ⟨h3, ?_⟩
  by_cases h4 : e.2.1 < f.2.1
  · exact .inl h4
  by_cases h5 : f.2.1 < e.2.1
  · exact (h (.inr ⟨h3.symm, .inr ⟨rfl, .inl h5⟩⟩)).elim
  have h6 : e.2.1 = f.2.1 := by omega
  refine .inr ⟨h6, ?_⟩
  by_cases h7 : f.2.2 < e.2.2
  · exact (h (.inr ⟨h3.symm, .inr ⟨rfl, .inr ⟨h6.symm, h7⟩⟩⟩)).elim
  · omega
/-- an ember that may come, were its flame never set -/
def Pot (ts : List Int) (cs : List Cord) (ls : List Lgt) (T : Tales) (p : PE) : Prop :=
  (∃ l ∈ ls, p = (l.2, l.1, topOf ts l.1, -1)) ∨ ∃ (i : Nat) (c : Cord), cs[i]? = some c ∧ ∃ s ∈ taleAt T c.one, c.at_ ≤ s.2.1 ∧ p = (s.1 + s.2.1 - c.at_ + c.lng, c.oth, c.to, (i : Int))
theorem flame_from {t : List Setg} {b a : Int} (ha : 1 ≤ a) (h : flame t b = a) : ∃ s ∈ t, a ≤ s.2.1 ∧ s.1 ≤ b ∧ b = s.1 + s.2.1 - a := by
  induction t using snoc_ind with
  | h0 => simp [flame] at h; omega
  | h1 t q ih =>
    rw [flame_snoc] at h
    split at h
    · exact ⟨q, by simp, by omega, by omega, by omega⟩
    · obtain ⟨s, h1, h2⟩ := ih h
      exact ⟨s, by simp [h1], h2⟩
section
variable {ts : List Int} {cs : List Cord} {ls : List Lgt} {T : Tales}
theorem Ember.pot (h : HouseOk ts cs) {x : Int} {e : Emb} (k : Ember ts cs ls T x e) : Pot ts cs ls T (pe x e) := by
  rcases k with ⟨l, hl, rfl, rfl⟩ | ⟨i, c, hc, rfl, hf, h1, h2⟩
  · exact .inl ⟨l, hl, rfl⟩
  · have ck := h.cord c (List.mem_of_getElem? hc)
    obtain ⟨s, hs, h3, _, h4⟩ := flame_from ck.at0 hf
    refine .inr ⟨i, c, hc, s, hs, h3, ?_⟩
    unfold pe
    rw [h1, h2]
    refine Prod.ext ?_ rfl
    simp only
    omega
/-- whether an ember that is due was sent -/
def Sent (cs : List Cord) (T : Tales) (p : PE) : Prop := p.2.2.2 = -1 ∨ ∃ (i : Nat) (c : Cord), p.2.2.2 = i ∧ cs[i]? = some c ∧ flame (taleAt T c.one) (p.1 - c.lng) = c.at_
theorem Pot.sent {p : PE} (k : Pot ts cs ls T p) : Sent cs T p ↔ Ember ts cs ls T p.2.1 (p.1, p.2.2.1, p.2.2.2) := by
  rcases k with ⟨l, hl, rfl⟩ | ⟨i, c, hc, s, hs, h1, rfl⟩
  · exact ⟨fun _ => .inl ⟨l, hl, rfl, rfl⟩, fun _ => .inl rfl⟩
  · constructor
    · rintro (h | ⟨j, d, hj, hd, hf⟩)
      · simp only at h
        omega
      · simp only at hj hf
        have : j = i := by omega
        subst this
        rw [hc] at hd
        cases hd
        exact .inr ⟨j, c, hc, rfl, hf, rfl, rfl⟩
    · rintro (⟨l, _, _, h⟩ | ⟨j, d, hd, _, hf, _, hj⟩)
      · have := congrArg (fun e : Emb => e.2.2) h
        simp only at this
        omega
      · exact .inr ⟨j, d, hj, hd, hf⟩
def embersFrom (cs : List Cord) (x b h : Int) : List PE := (cs.zipIdx.filter fun p => decide (p.1.one = x ∧ p.1.at_ ≤ h)).map fun p => (b + h - p.1.at_ + p.1.lng, p.1.oth, p.1.to, (p.2 : Int))
theorem embersFrom_len {x b h : Int} : (embersFrom cs x b h).length ≤ cs.length := by
  unfold embersFrom
  rw [List.length_map]
  exact Nat.le_trans (List.length_filter_le _ _) (by simp)
theorem mem_embersFrom {x b h : Int} {p : PE} : p ∈ embersFrom cs x b h ↔ ∃ (i : Nat) (c : Cord), cs[i]? = some c ∧ c.one = x ∧ c.at_ ≤ h ∧ p = (b + h - c.at_ + c.lng, c.oth, c.to, (i : Int)) := by
  unfold embersFrom
  simp only [List.mem_map, List.mem_filter, decide_eq_true_eq]
  constructor
  · rintro ⟨⟨c, i⟩, ⟨h1, h2, h3⟩, rfl⟩
    rw [List.mem_zipIdx_iff_getElem?] at h1
    exact ⟨i, c, h1, h2, h3, rfl⟩
  · rintro ⟨i, c, h1, h2, h3, rfl⟩
    exact ⟨(c, i), ⟨List.mem_zipIdx_iff_getElem?.mpr h1, h2, h3⟩, rfl⟩
theorem taleAt_set_same {x : Int} {t : List Setg} (h0 : 0 ≤ x) (h1 : x < T.length) : taleAt (T.set x.toNat t) x = t := by
  unfold taleAt
  rw [List.getD_eq_getElem?_getD, List.getElem?_set_self (by omega)]
  rfl
theorem taleAt_set_ne {x y : Int} {t : List Setg} (h0 : 0 ≤ x) (h1 : 0 ≤ y) (h : x ≠ y) : taleAt (T.set x.toNat t) y = taleAt T y := by
  unfold taleAt
  rw [List.getD_eq_getElem?_getD, List.getElem?_set_ne (by omega), List.getD_eq_getElem?_getD]
/-- how much may still come -/
def mu (hs : List Int) (t : List Setg) : Nat := match t.getLast? with
  | none => hs.length + 1
  | some s => (hs.filter fun h => decide (h < s.2.1)).length
theorem mu_snoc {hs : List Int} {t : List Setg} {s : Setg} (hm : s.2.1 ∈ hs) (h : t = [] ∨ ∃ u r, t = u ++ [r] ∧ s.2.1 < r.2.1) : mu hs (t ++ [s]) < mu hs t := by
  have e : mu hs (t ++ [s]) = (hs.filter fun h => decide (h < s.2.1)).length := by
    unfold mu
    rw [List.getLast?_append]
    rfl
  rw [e]
  rcases h with rfl | ⟨u, r, rfl, hr⟩
  · show _ < hs.length + 1
    have := List.length_filter_le (fun h => decide (h < s.2.1)) hs
    omega
  · have e2 : mu hs (u ++ [r]) = (hs.filter fun h => decide (h < r.2.1)).length := by
      unfold mu
      rw [List.getLast?_append]
      rfl
    rw [e2]
    have : ∀ l : List Int, (l.filter fun h => decide (h < s.2.1)).length + (if s.2.1 ∈ l then 1 else 0) ≤ (l.filter fun h => decide (h < r.2.1)).length := by
      intro l
      induction l with
      | nil => simp
      | cons a l ih =>
        by_cases h1 : a < s.2.1
        · rw [List.filter_cons_of_pos (by simpa using h1), List.filter_cons_of_pos (by simp; omega)]
          have : (s.2.1 ∈ a :: l) ↔ s.2.1 ∈ l := by simp; omega
          simp only [this, List.length_cons]
          omega
        · rw [List.filter_cons_of_neg (by simpa using h1)]
          by_cases h2 : a < r.2.1
          · rw [List.filter_cons_of_pos (by simpa using h2), List.length_cons]
            split <;> split at ih <;> omega
          · rw [List.filter_cons_of_neg (by simpa using h2)]
            have : (s.2.1 ∈ a :: l) ↔ s.2.1 ∈ l := by simp; omega
            simp only [this]
            exact ih
    have := this hs
    rw [if_pos hm] at this
    omega
def muAll (hs : List Int) (T : Tales) : Nat := (T.map (mu hs)).sum
theorem muAll_set {hs : List Int} : ∀ {T : Tales} {k : Nat} {t u : List Setg}, T[k]? = some t → mu hs u < mu hs t → muAll hs (T.set k u) < muAll hs T
  | [], k, t, u, h, _ => by simp at h
  | v :: T, 0, t, u, h, k => by
    simp at h
    subst h
    simp [muAll]
    omega
  | v :: T, k + 1, t, u, h, hk => by
    have := muAll_set (T := T) (k := k) (t := t) (u := u) (by simpa using h) hk
    simp [muAll] at this ⊢
    exact this
structure Inv (ts : List Int) (cs : List Cord) (ls : List Lgt) (T : Tales) (q : List PE) (k : PE) : Prop where
  len : T.length = ts.length
  heap : Hq.Heap peLt q
  pot : ∀ p ∈ q, Pot ts cs ls T p ∧ pLe k p
  all : ∀ p, Pot ts cs ls T p → p ∈ q ∨ pLe p k
  past : ∀ x : Int, 0 ≤ x → x < ts.length → ∀ s ∈ taleAt T x, s.1 ≤ k.1
  made : ∀ x : Int, 0 ≤ x → x < ts.length → Made (fun e => Ember ts cs ls T x e ∧ pLe (pe x e) k) (taleAt T x)
theorem Inv.done (h : HouseOk ts cs) {k : PE} (i : Inv ts cs ls T [] k) : IsTales ts cs ls T := by
  refine ⟨i.len, fun x x0 x1 => (i.made x x0 x1).congr fun e => ⟨fun h => h.1, fun he => ⟨he, ?_⟩⟩⟩
  rcases i.all _ (he.pot h) with h | h
  · simp at h
  · exact h
theorem Pot.range (h : HouseOk ts cs) (hl : LightsOk ts ls) {p : PE} (k : Pot ts cs ls T p) : 0 ≤ p.2.1 ∧ p.2.1 < ts.length ∧ 1 ≤ p.2.2.1 ∧ p.2.2.1 ∈ ts ++ cs.map fun c => c.to := by
  rcases k with ⟨l, hm, rfl⟩ | ⟨i, c, hc, s, hs, h1, rfl⟩
  · obtain ⟨h0, h1, _⟩ := hl l hm
    have ht : topOf ts l.1 ∈ ts := by
      unfold topOf
      rw [List.getD_eq_getElem?_getD, List.getElem?_eq_getElem (by omega)]
      exact List.getElem_mem _
    exact ⟨h0, h1, h.top _ ht, List.mem_append_left _ ht⟩
  · have ck := h.cord c (List.mem_of_getElem? hc)
    exact ⟨ck.oth0, ck.oth1, ck.to0, List.mem_append_right _ (List.mem_map.mpr ⟨c, List.mem_of_getElem? hc, rfl⟩)⟩
def pushAll (q : List PE) (ps : List PE) : List PE := ps.foldl (Hq.push peLt) q
theorem pushAll_perm : ∀ (ps q : List PE), (pushAll q ps).Perm (ps ++ q)
  | [], q => .refl _
  | p :: ps, q => by
    refine (pushAll_perm ps _).trans ?_
    refine ((List.Perm.refl ps).append Hq.push_perm).trans ?_
    simpa using List.perm_middle (l₁ := ps) (a := p) (l₂ := q)
theorem pushAll_heap : ∀ (ps q : List PE), Hq.Heap peLt q → Hq.Heap peLt (pushAll q ps)
  | [], q, h => h
  | p :: ps, q, h => pushAll_heap ps _ (Hq.push_ok peOrd h)
/-- what is past, with the next one -/
theorem Inv.next (h : HouseOk ts cs) {q rest : List PE} {k p : PE} (i : Inv ts cs ls T q k) (hp : q.Perm (p :: rest)) (hmin : ∀ r ∈ rest, pLe p r) {x : Int} {e : Emb} :
    (Ember ts cs ls T x e ∧ pLe (pe x e) p) ↔ ((Ember ts cs ls T x e ∧ pLe (pe x e) k) ∨ (Ember ts cs ls T x e ∧ pe x e = p)) := by
  have hpq : p ∈ q := hp.symm.subset (by simp)
  constructor
  · rintro ⟨he, hle⟩
    rcases i.all _ (he.pot h) with hq | hk
    · rcases List.mem_cons.mp (hp.subset hq) with h1 | h1
      · exact .inr ⟨he, h1⟩
      · exact .inr ⟨he, pLe.anti hle (hmin _ h1)⟩
    · exact .inl ⟨he, hk⟩
  · rintro (⟨he, hk⟩ | ⟨he, hk⟩)
    · exact ⟨he, hk.trans (i.pot p hpq).2⟩
    · exact ⟨he, hk ▸ pLe.refl⟩
/-- an ember that makes nothing -/
theorem Inv.skip (h : HouseOk ts cs) (hl : LightsOk ts ls) {q rest : List PE} {k p : PE} (i : Inv ts cs ls T q k) (hp : q.Perm (p :: rest)) (hmin : ∀ r ∈ rest, pLe p r) (hh : Hq.Heap peLt rest)
    (hc : ¬ (taleStep (taleAt T p.2.1) (p.1, p.2.2.1, p.2.2.2) ≠ taleAt T p.2.1 ∧ Sent cs T p)) : Inv ts cs ls T rest p := by
  have hpq : p ∈ q := hp.symm.subset (by simp)
  obtain ⟨hpp, hkp⟩ := i.pot p hpq
  obtain ⟨r0, r1, r2, _⟩ := hpp.range h hl
  refine ⟨i.len, hh, fun r hr => ⟨(i.pot r (hp.symm.subset (by simp [hr]))).1, hmin r hr⟩, fun r hr => ?_, fun x x0 x1 s hs => ?_, fun x x0 x1 => ?_⟩
  · rcases i.all r hr with h1 | h1
    · rcases List.mem_cons.mp (hp.subset h1) with rfl | h2
      · exact .inr .refl
      · exact .inl h2
    · exact .inr (h1.trans hkp)
  · exact Int.le_trans (i.past x x0 x1 s hs) hkp.beat
  · have m := i.made x x0 x1
    by_cases hx : x = p.2.1 ∧ Ember ts cs ls T p.2.1 (p.1, p.2.2.1, p.2.2.2)
    · obtain ⟨rfl, he⟩ := hx
      have hs := hpp.sent.mpr he
      have ht : taleStep (taleAt T p.2.1) (p.1, p.2.2.1, p.2.2.2) = taleAt T p.2.1 := by
        by_cases ht : taleStep (taleAt T p.2.1) (p.1, p.2.2.1, p.2.2.2) = taleAt T p.2.1
        · exact ht
        · exact (hc ⟨ht, hs⟩).elim
      have m2 := m.step (e := (p.1, p.2.2.1, p.2.2.2)) r2 fun e' he' => pLe.emb (x := p.2.1) (he'.2.trans hkp)
      rw [ht] at m2
      refine m2.congr fun e => ?_
      rw [i.next h hp hmin]
      refine or_congr Iff.rfl ⟨?_, ?_⟩
      · rintro rfl
        exact ⟨he, rfl⟩
      · rintro ⟨_, h2⟩
        rw [← h2]
        rfl
    · refine m.congr fun e => ?_
      rw [i.next h hp hmin]
      refine ⟨.inl, ?_⟩
      rintro (h1 | ⟨h1, h2⟩)
      · exact h1
      · refine (hx ?_).elim
        rw [← h2]
        exact ⟨rfl, h1⟩
theorem taleStep_cases {t : List Setg} {e : Emb} (h : taleStep t e ≠ t) : taleStep t e = t ++ [setOf e] ∧ (t = [] ∨ e.2.1 < flame t e.1) := by
  unfold taleStep at *
  split
  · rename_i hc
    exact ⟨rfl, hc⟩
  · rename_i hc
    rw [if_neg hc] at h
    exact (h rfl).elim
/-- an ember that lights or sets -/
theorem Inv.set (h : HouseOk ts cs) (hl : LightsOk ts ls) {q rest : List PE} {k p : PE} (i : Inv ts cs ls T q k) (hp : q.Perm (p :: rest)) (hmin : ∀ r ∈ rest, pLe p r) (hh : Hq.Heap peLt rest)
    (hc : taleStep (taleAt T p.2.1) (p.1, p.2.2.1, p.2.2.2) ≠ taleAt T p.2.1 ∧ Sent cs T p) :
    Inv ts cs ls (T.set p.2.1.toNat (taleStep (taleAt T p.2.1) (p.1, p.2.2.1, p.2.2.2))) (pushAll rest (embersFrom cs p.2.1 p.1 p.2.2.1)) p := by
  have hpq : p ∈ q := hp.symm.subset (by simp)
  obtain ⟨hpp, hkp⟩ := i.pot p hpq
  obtain ⟨r0, r1, r2, _⟩ := hpp.range h hl
  obtain ⟨hne, hs⟩ := hc
  have he := hpp.sent.mp hs
  obtain ⟨ht, hfl⟩ := taleStep_cases hne
  have hlenT := i.len
  generalize hT : T.set p.2.1.toNat (taleStep (taleAt T p.2.1) (p.1, p.2.2.1, p.2.2.2)) = T'
  have at1 : taleAt T' p.2.1 = taleAt T p.2.1 ++ [setOf (p.1, p.2.2.1, p.2.2.2)] := by
    rw [← hT, taleAt_set_same r0 (by omega), ht]
  have at2 : ∀ x, 0 ≤ x → x ≠ p.2.1 → taleAt T' x = taleAt T x := fun x x0 hx => by
    rw [← hT, taleAt_set_ne r0 x0 (Ne.symm hx)]
  have sup : ∀ x, 0 ≤ x → ∀ s ∈ taleAt T x, s ∈ taleAt T' x := fun x x0 s hs => by
    by_cases hx : x = p.2.1
    · subst hx
      rw [at1]
      simp [hs]
    · rw [at2 x x0 hx]
      exact hs
  have fl : ∀ x, 0 ≤ x → ∀ b, b < p.1 → flame (taleAt T' x) b = flame (taleAt T x) b := fun x x0 b hb => by
    by_cases hx : x = p.2.1
    · subst hx
      rw [at1, flame_snoc, if_neg (by simp only [setOf]; omega)]
    · rw [at2 x x0 hx]
  have em : ∀ x e, pLe (pe x e) p → (Ember ts cs ls T' x e ↔ Ember ts cs ls T x e) := fun x e hle => by
    have hb := hle.beat
    simp only [pe] at hb
    unfold Ember
    refine or_congr Iff.rfl (exists_congr fun j => exists_congr fun c => and_congr_right fun hc => ?_)
    have ck := h.cord c (List.mem_of_getElem? hc)
    have := ck.lng
    rw [fl _ ck.one0 _ (by omega)]
  have potUp : ∀ r, Pot ts cs ls T r → Pot ts cs ls T' r := fun r hr => by
    rcases hr with h1 | ⟨j, c, hc, s, hs, h1⟩
    · exact .inl h1
    · exact .inr ⟨j, c, hc, s, sup _ (h.cord c (List.mem_of_getElem? hc)).one0 s hs, h1⟩
  have perm := pushAll_perm (embersFrom cs p.2.1 p.1 p.2.2.1) rest
  refine ⟨by rw [← hT, List.length_set]; exact i.len, pushAll_heap _ _ hh, fun r hr => ?_, fun r hr => ?_, fun x x0 x1 s hs => ?_, fun x x0 x1 => ?_⟩
  · rcases List.mem_append.mp (perm.subset hr) with h1 | h1
    · obtain ⟨j, c, h2, h3, h4, rfl⟩ := mem_embersFrom.mp h1
      have ck := h.cord c (List.mem_of_getElem? h2)
      refine ⟨.inr ⟨j, c, h2, setOf (p.1, p.2.2.1, p.2.2.2), ?_, h4, rfl⟩, pLe.of_beat ?_⟩
      · rw [h3, at1]
        simp
      · have := ck.lng
        simp only
        omega
    · exact ⟨potUp _ (i.pot r (hp.symm.subset (by simp [h1]))).1, hmin r h1⟩
  · have old : Pot ts cs ls T r → r ∈ pushAll rest (embersFrom cs p.2.1 p.1 p.2.2.1) ∨ pLe r p := fun hr => by
      rcases i.all r hr with h1 | h1
      · rcases List.mem_cons.mp (hp.subset h1) with rfl | h2
        · exact .inr .refl
        · exact .inl (perm.symm.subset (by simp [h2]))
      · exact .inr (h1.trans hkp)
    rcases hr with h1 | ⟨j, c, h2, s, hs, h3, rfl⟩
    · exact old (.inl h1)
    · have ck := h.cord c (List.mem_of_getElem? h2)
      by_cases hx : c.one = p.2.1
      · rw [hx, at1] at hs
        rcases List.mem_append.mp hs with hs | hs
        · exact old (.inr ⟨j, c, h2, s, by rw [hx]; exact hs, h3, rfl⟩)
        · rw [List.mem_singleton.mp hs] at h3 ⊢
          exact .inl (perm.symm.subset (List.mem_append_left _ (mem_embersFrom.mpr ⟨j, c, h2, hx, h3, rfl⟩)))
      · rw [at2 _ ck.one0 hx] at hs
        exact old (.inr ⟨j, c, h2, s, hs, h3, rfl⟩)
  · by_cases hx : x = p.2.1
    · subst hx
      rw [at1] at hs
      rcases List.mem_append.mp hs with hs | hs
      · exact Int.le_trans (i.past _ x0 x1 s hs) hkp.beat
      · rw [List.mem_singleton.mp hs]
        exact Int.le_refl _
    · rw [at2 x x0 hx] at hs
      exact Int.le_trans (i.past _ x0 x1 s hs) hkp.beat
  · have m := i.made x x0 x1
    by_cases hx : x = p.2.1
    · subst hx
      have m2 := m.step (e := (p.1, p.2.2.1, p.2.2.2)) r2 fun e' he' => pLe.emb (x := p.2.1) (he'.2.trans hkp)
      rw [ht, ← at1] at m2
      refine m2.congr fun e => ?_
      constructor
      · intro h1
        have h2 : Ember ts cs ls T p.2.1 e ∧ pLe (pe p.2.1 e) p := by
          rw [i.next h hp hmin]
          rcases h1 with h1 | rfl
          · exact .inl h1
          · exact .inr ⟨he, rfl⟩
        exact ⟨(em _ _ h2.2).mpr h2.1, h2.2⟩
      · rintro ⟨h1, h2⟩
        have h3 : Ember ts cs ls T p.2.1 e ∧ pLe (pe p.2.1 e) p := ⟨(em _ _ h2).mp h1, h2⟩
        rw [i.next h hp hmin] at h3
        rcases h3 with h3 | ⟨_, h3⟩
        · exact .inl h3
        · right
          rw [← h3]
          rfl
    · rw [at2 x x0 hx]
      refine m.congr fun e => ?_
      constructor
      · rintro ⟨h1, h2⟩
        have h3 := h2.trans hkp
        exact ⟨(em _ _ h3).mpr h1, h3⟩
      · rintro ⟨h1, h2⟩
        have h3 : Ember ts cs ls T x e ∧ pLe (pe x e) p := ⟨(em _ _ h2).mp h1, h2⟩
        rw [i.next h hp hmin] at h3
        rcases h3 with h3 | ⟨_, h3⟩
        · exact h3
        · refine (hx ?_).elim
          rw [← h3]
          rfl
def meas (ts : List Int) (cs : List Cord) (T : Tales) (q : List PE) : Nat := q.length + (cs.length + 1) * muAll (ts ++ cs.map fun c => c.to) T
theorem meas_skip {q rest : List PE} {p : PE} (hp : q.Perm (p :: rest)) : meas ts cs T rest < meas ts cs T q := by
  unfold meas
  rw [hp.length_eq, List.length_cons]
  omega
theorem meas_set (h : HouseOk ts cs) (hl : LightsOk ts ls) {q rest : List PE} {k p : PE} (i : Inv ts cs ls T q k) (hp : q.Perm (p :: rest))
    (hc : taleStep (taleAt T p.2.1) (p.1, p.2.2.1, p.2.2.2) ≠ taleAt T p.2.1) :
    meas ts cs (T.set p.2.1.toNat (taleStep (taleAt T p.2.1) (p.1, p.2.2.1, p.2.2.2))) (pushAll rest (embersFrom cs p.2.1 p.1 p.2.2.1)) < meas ts cs T q := by
  have hpq : p ∈ q := hp.symm.subset (by simp)
  obtain ⟨hpp, hkp⟩ := i.pot p hpq
  obtain ⟨r0, r1, r2, hin⟩ := hpp.range h hl
  obtain ⟨ht, hfl⟩ := taleStep_cases hc
  have hlen := i.len
  have hget : T[p.2.1.toNat]? = some (taleAt T p.2.1) := by
    unfold taleAt
    rw [List.getD_eq_getElem?_getD, List.getElem?_eq_getElem (by omega)]
    rfl
  have hmu : mu (ts ++ cs.map fun c => c.to) (taleStep (taleAt T p.2.1) (p.1, p.2.2.1, p.2.2.2)) < mu (ts ++ cs.map fun c => c.to) (taleAt T p.2.1) := by
    rw [ht]
    refine mu_snoc (s := setOf (p.1, p.2.2.1, p.2.2.2)) hin ?_
    rcases snoc_or (taleAt T p.2.1) with h0 | ⟨u, r, hu⟩
    · exact .inl h0
    · refine .inr ⟨u, r, hu, ?_⟩
      rcases hfl with h0 | h0
      · rw [h0] at hu
        simp at hu
      · have hr := i.past p.2.1 r0 r1 r (by rw [hu]; simp)
        have hb := hkp.beat
        rw [hu, flame_snoc, if_pos (show r.1 ≤ p.1 by omega)] at h0
        simp only [setOf]
        simp only at h0
        omega
  have hmu2 := muAll_set hget hmu
  unfold meas
  rw [hp.length_eq, (pushAll_perm _ _).length_eq, List.length_append, List.length_cons]
  have := embersFrom_len (cs := cs) (x := p.2.1) (b := p.1) (h := p.2.2.1)
  have h3 : (cs.length + 1) * muAll (ts ++ cs.map fun c => c.to) (T.set p.2.1.toNat (taleStep (taleAt T p.2.1) (p.1, p.2.2.1, p.2.2.2))) + (cs.length + 1) ≤ (cs.length + 1) * muAll (ts ++ cs.map fun c => c.to) T := by
    rw [← Nat.mul_succ]
    exact Nat.mul_le_mul_left _ hmu2
  omega
/-- at first -/
theorem Inv.start (hl : LightsOk ts ls) (h : HouseOk ts cs) : Inv ts cs ls (List.replicate ts.length []) (Hq.heapify peLt (ls.map fun l => (l.2, l.1, topOf ts l.1, -1))) (-1, 0, 0, 0) := by
  have t0 : ∀ x : Int, taleAt (List.replicate ts.length []) x = [] := fun x => by
    unfold taleAt
    rw [List.getD_eq_getElem?_getD, List.getElem?_replicate]
    split <;> rfl
  have perm : (Hq.heapify peLt (ls.map fun l => ((l.2, l.1, topOf ts l.1, -1) : PE))).Perm _ := Hq.heapify_perm
  refine ⟨by simp, Hq.heapify_ok peOrd, fun p hp => ?_, fun p hp => ?_, fun x _ _ s hs => ?_, fun x _ _ => ?_⟩
  · obtain ⟨l, hm, rfl⟩ := List.mem_map.mp (perm.subset hp)
    have := (hl l hm).2.2
    exact ⟨.inl ⟨l, hm, rfl⟩, .of_beat (by simp only; omega)⟩
  · rcases hp with ⟨l, hm, rfl⟩ | ⟨i, c, _, s, hs, _⟩
    · exact .inl (perm.symm.subset (List.mem_map.mpr ⟨l, hm, rfl⟩))
    · rw [t0] at hs
      simp at hs
  · rw [t0] at hs
    simp at hs
  · rw [t0]
    refine .nil fun e he => ?_
    obtain ⟨he, hk⟩ := he
    have hb := hk.beat
    simp only [pe] at hb
    rcases he.pot h with ⟨l, hm, h1⟩ | ⟨i, c, _, s, hs, _⟩
    · have := congrArg Prod.fst h1
      have h2 := (hl l hm).2.2
      simp only [pe] at this
      omega
    · rw [t0] at hs
      simp at hs
theorem sum_rep {n k : Nat} : (List.replicate n k).sum = n * k := by
  induction n with
  | zero => simp
  | succ n ih => rw [List.replicate_succ, List.sum_cons, ih, Nat.succ_mul, Nat.add_comm]
theorem meas_start : meas ts cs (List.replicate ts.length []) (Hq.heapify peLt (ls.map fun l => (l.2, l.1, topOf ts l.1, -1))) = ls.length + (cs.length + 1) * (ts.length * (ts.length + cs.length + 1)) := by
  unfold meas muAll
  rw [Hq.heapify_perm.length_eq, List.length_map, List.map_replicate, sum_rep]
  simp [mu]
end
end Bn
set_option Elab.async false
set_option linter.all false
set_option maxRecDepth 100000
namespace Dn
open PySem PySem.Spec PyProof.Rows L2
/-! ### the burning, as data -/
abbrev taleD (t : List Setg) : PyData := .tuple (t.map setD)
def peD (p : Bn.PE) : PyData := .tuple [.int p.1, .int p.2.1, .int p.2.2.1, .int p.2.2.2]
theorem blt_int {a b : Int} : itemOrd.blt (.inl a) (.inl b) = decide (a < b) := rfl
theorem lt_peD {p q : Bn.PE} : dLt (peD p) (peD q) = Bn.peLt p q := by
  obtain ⟨a, b, c, d⟩ := p
  obtain ⟨a', b', c', d'⟩ := q
  rw [Bool.eq_iff_iff]
  unfold Bn.peLt
  rw [decide_eq_true_eq]
  unfold peD dLt Bn.lex
  simp only [PySem.W.dataLt, PySem.W.keyToks, PySem.W.keyToksAll, List.cons_append, List.nil_append]
  rw [lex_self]
  by_cases h1 : a = a'
  · subst h1
    rw [lex_self, lex_self]
    by_cases h2 : b = b'
    · subst h2
      rw [lex_self, lex_self]
      by_cases h3 : c = c'
      · subst h3
        rw [lex_self, lex_self]
        by_cases h4 : d = d'
        · subst h4
          rw [lex_self, lex_self]
          simp
          rfl
        · rw [lex_diff (by simpa using h4), blt_int]
          simp
      · rw [lex_diff (by simpa using h3), blt_int]
        simp [h3]
    · rw [lex_diff (by simpa using h2), blt_int]
      simp [h2]
  · rw [lex_diff (by simpa using h1), blt_int]
    simp [h1]
theorem heapOk_pe {q : List Bn.PE} (h : q.length ≤ 2000) : heapOk (q.map peD) := by
  refine ⟨fun d hd d' hd' => ?_, fun d hd => ?_, by simpa using h, fun d hd => ?_⟩
  · obtain ⟨p, _, rfl⟩ := List.mem_map.mp hd
    obtain ⟨r, _, rfl⟩ := List.mem_map.mp hd'
    simp [peD, PySem.W.alike, PySem.W.alikeAll]
  · obtain ⟨p, _, rfl⟩ := List.mem_map.mp hd
    rfl
  · obtain ⟨p, _, rfl⟩ := List.mem_map.mp hd
    simp [peD, PyData.depth, PyData.depthAll]
theorem nat_pe : ∀ x y : Bn.PE, dLt (peD x) (peD y) = Bn.peLt x y := fun _ _ => lt_peD
section
variable {C : CS} {P : SV × CS → Prop} {m : Nat} {q : List Bn.PE}
theorem wo_heapify (h : cellAt C m = some (q.map peD)) (hl : q.length ≤ 2000) : Wo (gHeapify [.c m] C) P ↔ P (.d .none, C.set m (some ((Hq.heapify Bn.peLt q).map peD))) := by
  unfold gHeapify
  simp only [h, Option.bind_some, if_pos (heapOk_pe hl), wo_some]
  rw [Hq.heapify_map (f := peD) (lt := Bn.peLt) nat_pe]
theorem wo_hpush {p : Bn.PE} (h : cellAt C m = some (q.map peD)) (hl : q.length < 2000) : Wo (gHpush [.c m, .d (peD p)] C) P ↔ P (.d .none, C.set m (some ((Hq.push Bn.peLt q p).map peD))) := by
  unfold gHpush
  have hok : heapOk (peD p :: q.map peD) := heapOk_pe (q := p :: q) (by simp; omega)
  simp only [h, Option.bind_some, if_pos hok, wo_some]
  rw [Hq.push_map (f := peD) (lt := Bn.peLt) nat_pe]
theorem wo_hpop {p : Bn.PE} {r : List Bn.PE} (h : cellAt C m = some (q.map peD)) (hl : q.length ≤ 2000) (hp : Hq.pop Bn.peLt q = some (p, r)) : Wo (gHpop [.c m] C) P ↔ P (.d (peD p), C.set m (some (r.map peD))) := by
  unfold gHpop
  simp only [h, Option.bind_some, if_pos (heapOk_pe hl)]
  rw [Hq.pop_map (f := peD) (lt := Bn.peLt) nat_pe, hp]
  simp
theorem wo_truT {f : DE} {ε : Ev} {xs : List PyData} {Pt : Bool × CS → Prop} (h : f ε C = some (.d (.tuple xs), C)) : Wo (dTru f ε C) Pt ↔ Pt (!xs.isEmpty, C) := by
  unfold dTru
  rw [h]
  simp [truD]
theorem wo_truL {f : DE} {ε : Ev} {xs : List PyData} {Pt : Bool × CS → Prop} (h : f ε C = some (.c m, C)) (hc : cellAt C m = some xs) : Wo (dTru f ε C) Pt ↔ Pt (!xs.isEmpty, C) := by
  unfold dTru
  rw [h]
  simp [hc]
@[simp] theorem wo_star {f : DE} {fr : DA} {ε : Ev} {Pa : List SV × CS → Prop} : Wo (dStar f fr ε C) Pa ↔ Wo (f ε C) fun x => Wo (rdS x.1 x.2) fun xs => Wo (fr ε x.2) fun y => Pa (xs.map SV.d ++ y.1, y.2) := by simp [dStar]
end
theorem plain_tale (t : List Setg) : PyData.plain (taleD t) = true := by
  refine plain_of ?_
  simp only [PyData.hasDict]
  refine noDict_iff.mpr fun x hx => ?_
  obtain ⟨s, _, rfl⟩ := List.mem_map.mp hx
  obtain ⟨a, b, c⟩ := s
  cases c <;> rfl
theorem depth_tale (t : List Setg) : (taleD t).depth ≤ 2 := by
  simp only [PyData.depth]
  have : PyData.depthAll (t.map setD) ≤ 1 := depth_iff.mpr fun x hx => by
    obtain ⟨s, _, rfl⟩ := List.mem_map.mp hx
    obtain ⟨a, b, c⟩ := s
    cases c <;> simp [setD, optD, PyData.depth, PyData.depthAll]
  omega
theorem fits_tale (t u : List Setg) : fits (taleD t) (taleD u) = true := by
  unfold fits
  have h1 := plain_tale t
  have h2 := plain_tale u
  have h3 := depth_tale t
  have h4 := depth_tale u
  simp only [h1, h2]
  simp
  left
  omega
theorem eqvAll_len : ∀ {xs ys : List PyData}, PyData.eqvAll xs ys = true → xs.length = ys.length
  | [], [], _ => rfl
  | [], y :: ys, h => by simp [PyData.eqvAll] at h
  | x :: xs, [], h => by simp [PyData.eqvAll] at h
  | x :: xs, y :: ys, h => by
    simp only [PyData.eqvAll, Bool.and_eq_true] at h
    simp [eqvAll_len h.2]
theorem eqv_step {t : List Setg} {e : Emb} : PyData.eqv (taleD (Dn.taleStep t e)) (taleD t) = decide (Dn.taleStep t e = t) := by
  by_cases h : Dn.taleStep t e = t
  · rw [h]
    simp only [decide_true]
    exact PySem.SeqAt.eqv_refl_plain _ (plain_tale t)
  · rw [decide_eq_false h]
    cases hb : PyData.eqv (taleD (Dn.taleStep t e)) (taleD t) with
    | false => rfl
    | true =>
      have h1 : PyData.eqvAll ((Dn.taleStep t e).map setD) (t.map setD) = true := by simpa [PyData.eqv] using hb
      have h2 := eqvAll_len h1
      simp at h2
      refine (h ?_).elim
      unfold Dn.taleStep at h2 h ⊢
      split
      · rename_i hc
        rw [if_pos hc] at h2
        simp at h2
      · rfl
theorem frzs_ds {C : CS} : ∀ (xs : List PyData), frzs (xs.map SV.d) C = some (xs, C)
  | [] => rfl
  | x :: xs => by simp [frzs_ds xs]
theorem gTup_ds {C : CS} {P : SV × CS → Prop} {xs : List PyData} (h : xs.length ≤ 9000) : Wo (gTup (xs.map SV.d) C) P ↔ P (.d (.tuple xs), C) := by
  unfold gTup
  rw [frzs_ds]
  simp
  intro _
  omega
end Dn
set_option Elab.async false
set_option linter.all false
set_option maxRecDepth 100000
namespace Dn
open PySem PySem.Spec PyProof.Rows L2
open Evl (Ex Ex.refl Ex.trans Ex.new fresh_back ex_l ex_t ex_rd)
/-! ### a tuple once, a tuple no times -/
end Dn
set_option Elab.async false
set_option linter.all false
set_option maxRecDepth 100000
namespace Dn
open PySem PySem.Spec PyProof.Rows L2
/-- lights as they are drawn -/
structure Lits (n : Nat) (ls : List Lgt) : Prop where
  rise : (ls.map Prod.fst).Pairwise (· < ·)
  ok : ∀ l ∈ ls, 0 ≤ l.1 ∧ l.1 < n ∧ 0 ≤ l.2 ∧ l.2 ≤ 1000000
theorem Lits.nil {n : Nat} : Lits n [] := ⟨List.Pairwise.nil, fun l h => by simp at h⟩
theorem Lits.lights {ts : List Int} {ls : List Lgt} (h : Lits ts.length ls) : Bn.LightsOk ts ls := fun l hl => ⟨(h.ok l hl).1, (h.ok l hl).2.1, (h.ok l hl).2.2.1⟩
end Dn
set_option Elab.async false
set_option linter.all false
set_option maxRecDepth 100000
namespace Dn
open PySem PySem.Spec PyProof.Rows L2
/-! ### None or a number held beside a truth -/
def rNotMix : R2 := fun x y H Q => (x = .non ∨ ∃ i, x = .int i) ∧ (∃ b, y = .bl b) ∧ Q (.bl true) H
theorem op_notMix {X : Cx} : OpR X (compareOp .IsNot) rNotMix := by
  intro pins s σ H x y v u Q I rx ry h
  obtain ⟨hx, ⟨b, rfl⟩, q⟩ := h
  cases (show u = Value.bool b from ry)
  rcases hx with rfl | ⟨i, rfl⟩
  · cases rx
    exact wpAny_isNot_other rfl (fun z => Value.noConfusion z) ⟨.bl true, H, I, rfl, q⟩
  · obtain ⟨t, rfl⟩ := rx
    exact wpAny_isNot_other rfl (fun z => Value.noConfusion z) ⟨.bl true, H, I, rfl, q⟩
abbrev rIsntU : R2 := fun x y H Q => rIsntAll x y H Q ∨ rNotMix x y H Q
theorem op_isntU {X : Cx} : OpR X (compareOp .IsNot) rIsntU := op_isntAll.or op_notMix
def gIsntU (a b : SV) (C : CS) : Option (SV × CS) := match a, b with
  | .d .none, .d (.bool _) => some (.d (.bool true), C)
  | .d (.int _), .d (.bool _) => some (.d (.bool true), C)
  | _, _ => gIsnt a b C
theorem rk_isntU {K : PySem.W.Frag} : R2K K rIsntU gIsntU := fun I C μ H w x y a b ra rb q C' e Q k => by
  unfold gIsntU at e
  split at e
  · cases e
    exact .inr ⟨.inl (rv_non ra), ⟨_, rv_bool rb⟩, k I μ H _ Le.refl w (Dq.bl _)⟩
  · cases e
    exact .inr ⟨.inr ⟨_, rv_int ra⟩, ⟨_, rv_bool rb⟩, k I μ H _ Le.refl w (Dq.bl _)⟩
  · exact .inl (rk_isnt I C μ H w x y a b ra rb q C' e Q k)
end Dn
set_option Elab.async false
set_option linter.all false
set_option maxRecDepth 100000
set_option maxHeartbeats 4000000
namespace Pg
open PySem PySem.Spec PyProof.Rows L2 Dn
noncomputable def b_are_rising : DS := (dRet (dCall (gLook fAll) (dCons (dLc (dIZip (dCons (dVar 0) (dCons (dCut (dVar 0) (dPart (dC (.int 1))) dNo) dNil))) [1, 2] (dgTup 2 (dgCons (dName 1) (dgCons (dName 2) dgNil))) dYes (dOp gLt (dVar 1) (dVar 2))) dNil)))
noncomputable def m_are_rising : DF := runF 1 3 b_are_rising
noncomputable def b_is_whole : DS := (dRet (dAndV (dIsi PyData.isInt (dVar 0)) (dNotV (dIsi PyData.isBool (dVar 0)))))
noncomputable def m_is_whole : DF := runF 1 1 b_is_whole
noncomputable def b_is_from_to : DS := (dRet (dAndV (dCall m_is_whole (dCons (dVar 0) dNil)) (dChain gLe gLe (dVar 1) (dVar 0) (dVar 2))))
noncomputable def m_is_from_to : DF := runF 3 3 b_is_from_to
noncomputable def b_is_candle : DS := (dRet (dCall m_is_from_to (dCons (dVar 1) (dCons (dC (.int 0)) (dCons (dOp gSub (dCall (gLook fLen) (dCons (dOp gIx (dVar 0) (dC (.int 0))) dNil)) (dC (.int 1))) dNil)))))
noncomputable def m_is_candle : DF := runF 2 2 b_is_candle
noncomputable def b_is_light : DS := (dSeq (dIfS (dTidyT (dOr (dNot (dTest (dIsi PyData.isTuple (dVar 1)))) (dTest (dOp gNeP (dCall (gLook fLen) (dCons (dVar 1) dNil)) (dC (.int 2)))))) (dRet (dC (.bool false))) dNext)
    (dSeq (dAsg (dTidy (dVar 1)) (dgTup 2 (dgCons (dName 2) (dgCons (dName 3) dgNil))))
    (dRet (dAndV (dCall m_is_candle (dCons (dVar 0) (dCons (dVar 2) dNil))) (dCall m_is_from_to (dCons (dVar 3) (dCons (dC (.int 0)) (dCons (dC (.int (1000000))) dNil))))))))
noncomputable def m_is_light : DF := runF 2 4 b_is_light
noncomputable def b_are_tops : DS := (dSeq (dIfS (dTidyT (dOr (dNot (dTest (dIsi PyData.isTuple (dVar 0)))) (dNot (dTest (dChain gLe gLe (dC (.int 1)) (dCall (gLook fLen) (dCons (dVar 0) dNil)) (dC (.int (7)))))))) (dRet (dC (.bool false))) dNext)
    (dRet (dCall (gLook fAll) (dCons (dLc (diSeq (dVar 0)) [1] (dName 1) dYes (dCall m_is_from_to (dCons (dVar 1) (dCons (dC (.int 1)) (dCons (dC (.int (1000000))) dNil))))) dNil))))
noncomputable def m_are_tops : DF := runF 1 2 b_are_tops
noncomputable def b_is_cord : DS := (dSeq (dIfS (dTidyT (dOr (dNot (dTest (dIsi PyData.isTuple (dVar 1)))) (dTest (dOp gNeP (dCall (gLook fLen) (dCons (dVar 1) dNil)) (dC (.int 5)))))) (dRet (dC (.bool false))) dNext)
    (dSeq (dAsg (dTidy (dVar 1)) (dgTup 5 (dgCons (dName 2) (dgCons (dName 3) (dgCons (dName 4) (dgCons (dName 5) (dgCons (dName 6) dgNil)))))))
    (dRet (dAndV (dCall m_is_from_to (dCons (dVar 2) (dCons (dC (.int 0)) (dCons (dOp gSub (dCall (gLook fLen) (dCons (dVar 0) dNil)) (dC (.int 1))) dNil)))) (dAndV (dCall m_is_from_to (dCons (dVar 3) (dCons (dC (.int 1)) (dCons (dOp gSub (dOp gIx (dVar 0) (dVar 2)) (dC (.int 1))) dNil)))) (dAndV (dCall m_is_from_to (dCons (dVar 4) (dCons (dC (.int 0)) (dCons (dOp gSub (dCall (gLook fLen) (dCons (dVar 0) dNil)) (dC (.int 1))) dNil)))) (dAndV (dCall m_is_from_to (dCons (dVar 5) (dCons (dC (.int 1)) (dCons (dOp gIx (dVar 0) (dVar 4)) dNil)))) (dCall m_is_from_to (dCons (dVar 6) (dCons (dC (.int 1)) (dCons (dC (.int (1000000))) dNil)))))))))))
noncomputable def m_is_cord : DF := runF 2 7 b_is_cord
noncomputable def b_are_cords : DS := (dSeq (dIfS (dTidyT (dOr (dNot (dTest (dIsi PyData.isTuple (dVar 1)))) (dTest (dOp gGt (dCall (gLook fLen) (dCons (dVar 1) dNil)) (dC (.int (10))))))) (dRet (dC (.bool false))) dNext)
    (dRet (dCall (gLook fAll) (dCons (dLc (diSeq (dVar 1)) [2] (dName 2) dYes (dCall m_is_cord (dCons (dVar 0) (dCons (dVar 2) dNil)))) dNil))))
noncomputable def m_are_cords : DF := runF 2 3 b_are_cords
noncomputable def b_is_house : DS := (dSeq (dIfS (dTidyT (dOr (dNot (dTest (dIsi PyData.isTuple (dVar 0)))) (dTest (dOp gNeP (dCall (gLook fLen) (dCons (dVar 0) dNil)) (dC (.int 2)))))) (dRet (dC (.bool false))) dNext)
    (dSeq (dAsg (dTidy (dVar 0)) (dgTup 2 (dgCons (dName 1) (dgCons (dName 2) dgNil))))
    (dRet (dAndV (dCall m_are_tops (dCons (dVar 1) dNil)) (dCall m_are_cords (dCons (dVar 1) (dCons (dVar 2) dNil)))))))
noncomputable def m_is_house : DF := runF 1 3 b_is_house
noncomputable def b_need_house : DS := (dIfS (dTidyT (dNot (dTest (dCall m_is_house (dCons (dVar 0) dNil))))) dNever dNext)
noncomputable def m_need_house : DF := runF 1 1 b_need_house
noncomputable def b_are_lights : DS := (dSeq (dDrop (dTidy (dCall m_need_house (dCons (dVar 0) dNil))))
    (dSeq (dIfS (dTidyT (dNot (dTest (dIsi PyData.isTuple (dVar 1))))) (dRet (dC (.bool false))) dNext)
    (dSeq (dIfS (dTidyT (dNot (dTest (dCall (gLook fAll) (dCons (dLc (diSeq (dVar 1)) [2] (dName 2) dYes (dCall m_is_light (dCons (dVar 0) (dCons (dVar 2) dNil)))) dNil))))) (dRet (dC (.bool false))) dNext)
    (dRet (dCall m_are_rising (dCons (dLc (diSeq (dVar 1)) [3, 4] (dgTup 2 (dgCons (dName 3) (dgCons (dName 4) dgNil))) dYes (dVar 3)) dNil))))))
noncomputable def m_are_lights : DF := runF 2 5 b_are_lights
noncomputable def b_need_lights : DS := (dIfS (dTidyT (dNot (dTest (dCall m_are_lights (dCons (dVar 0) (dCons (dVar 1) dNil)))))) dNever dNext)
noncomputable def m_need_lights : DF := runF 2 2 b_need_lights
noncomputable def b_embers_from : DS := (dSeq (dAsg (dTidy (dCall gLst dNil)) (dName 4))
    (dSeq (dFor (dIEnum (dCons (dOp gIx (dVar 0) (dC (.int 1))) dNil)) (dgTup 2 (dgCons (dName 5) (dgCons (dgTup 5 (dgCons (dName 6) (dgCons (dName 7) (dgCons (dName 8) (dgCons (dName 9) (dgCons (dName 10) dgNil)))))) dgNil))) (dIfS (dTidyT (dAnd (dTest (dOp gEqP (dVar 6) (dVar 1))) (dTest (dOp gLe (dVar 7) (dVar 3))))) (dDrop (dTidy (dApp (dVar 4) (dCall gTup (dCons (dOp gAdd (dOp gSub (dOp gAdd (dVar 2) (dVar 3)) (dVar 7)) (dVar 10)) (dCons (dVar 8) (dCons (dVar 9) (dCons (dVar 5) dNil)))))))) dNext))
    (dRet (dVar 4))))
noncomputable def m_embers_from : DF := runF 4 11 b_embers_from
noncomputable def b_flame_in : DS := (dSeq (dAsg (dTidy (dC (.int 0))) (dName 2))
    (dSeq (dFor (diSeq (dVar 0)) (dgTup 3 (dgCons (dName 3) (dgCons (dName 4) (dgCons (dName 5) dgNil)))) (dIfS (dTidyT (dTest (dOp gLe (dVar 3) (dVar 1)))) (dAsg (dTidy (dCall gMax2 (dCons (dC (.int 0)) (dCons (dOp gSub (dVar 4) (dOp gSub (dVar 1) (dVar 3))) dNil)))) (dName 2)) dNext))
    (dRet (dVar 2))))
noncomputable def m_flame_in : DF := runF 2 6 b_flame_in
noncomputable def b_is_sent : DS := (dSeq (dIfS (dTidyT (dTest (dOp gEqP (dVar 3) (dC (.int (-1)))))) (dRet (dC (.bool true))) dNext)
    (dSeq (dAsg (dTidy (dOp gIx (dOp gIx (dVar 0) (dC (.int 1))) (dVar 3))) (dgTup 5 (dgCons (dName 4) (dgCons (dName 5) (dgCons (dName 6) (dgCons (dName 7) (dgCons (dName 8) dgNil)))))))
    (dRet (dOp gEqP (dCall m_flame_in (dCons (dOp gIx (dVar 1) (dVar 4)) (dCons (dOp gSub (dVar 2) (dVar 8)) dNil))) (dVar 5)))))
noncomputable def m_is_sent : DF := runF 4 9 b_is_sent
noncomputable def b_with_ember : DS := (dSeq (dIfS (dTidyT (dAnd (dTru (dVar 0)) (dTest (dOp gLe (dCall m_flame_in (dCons (dVar 0) (dCons (dVar 1) dNil))) (dVar 2))))) (dRet (dVar 0)) dNext)
    (dRet (dCall gTup (dStar (dVar 0) (dCons (dCall gTup (dCons (dVar 1) (dCons (dVar 2) (dCons (dIf (dTest (dOp gEqP (dVar 3) (dC (.int (-1))))) (dC .none) (dVar 3)) dNil)))) dNil)))))
noncomputable def m_with_ember : DF := runF 4 4 b_with_ember
noncomputable def b_burnt_tales : DS := (dSeq (dAsg (dTidy (dOp gIx (dVar 0) (dC (.int 0)))) (dName 2))
    (dSeq (dAsg (dTidy (dOp gMulT (dCall gLst (dCons (dCall gTup dNil) dNil)) (dCall (gLook fLen) (dCons (dVar 2) dNil)))) (dName 3))
    (dSeq (dAsg (dTidy (dLc (diSeq (dVar 1)) [7, 6] (dgTup 2 (dgCons (dName 7) (dgCons (dName 6) dgNil))) dYes (dCall gTup (dCons (dVar 6) (dCons (dVar 7) (dCons (dOp gIx (dVar 2) (dVar 7)) (dCons (dC (.int (-1))) dNil))))))) (dName 4))
    (dSeq (dDrop (dTidy (dCall gHeapify (dCons (dVar 4) dNil))))
    (dSeq (dWhile 100000 (dTru (dVar 4)) (dSeq (dAsg (dTidy (dCall gHpop (dCons (dVar 4) dNil))) (dgTup 4 (dgCons (dName 6) (dgCons (dName 7) (dgCons (dName 8) (dgCons (dName 9) dgNil))))))
    (dSeq (dAsg (dTidy (dCall m_with_ember (dCons (dOp gIx (dVar 3) (dVar 7)) (dCons (dVar 6) (dCons (dVar 8) (dCons (dVar 9) dNil)))))) (dName 5))
    (dIfS (dTidyT (dAnd (dTest (dOp gNeP (dVar 5) (dOp gIx (dVar 3) (dVar 7)))) (dTest (dCall m_is_sent (dCons (dVar 0) (dCons (dVar 3) (dCons (dVar 6) (dCons (dVar 9) dNil)))))))) (dSeq (dAsg (dTidy (dVar 5)) (dgSub (dVar 3) (dVar 7)))
    (dFor (diSeq (dCall m_embers_from (dCons (dVar 0) (dCons (dVar 7) (dCons (dVar 6) (dCons (dVar 8) dNil)))))) (dName 10) (dDrop (dTidy (dCall gHpush (dCons (dVar 4) (dCons (dVar 10) dNil))))))) dNext))))
    (dRet (dCall gTuple (dCons (dVar 3) dNil))))))))
noncomputable def m_burnt_tales : DF := runF 2 11 b_burnt_tales
noncomputable def b__law_next : DS := (dSeq (dAsg (dTidy (dOp gMod (dOp gAdd (dVar 0) (dC (.int 7919))) (dC (.int 2147483647)))) (dName 0))
    (dRet (dOp gMod (dOp gAdd (dOp gAdd (dOp gMulT (dVar 0) (dVar 0)) (dOp gMulT (dC (.int 48271)) (dVar 0))) (dC (.int 12345))) (dC (.int 2147483629)))))
noncomputable def m__law_next : DF := runF 1 1 b__law_next
end Pg
set_option Elab.async false
set_option linter.all false
set_option maxRecDepth 100000
namespace Pg
open PySem PySem.Spec PyProof.Rows L2 Dn
variable {C : CS} {n : Nat} {P : SV × CS → Prop}
def nextF (i : Int) : Int := let o := (i + 7919) % 2147483647; (o * o + 48271 * o + 12345) % 2147483629
@[simp] theorem next_eq {i : Int} : Wo (m__law_next [.d (.int i)] C) P ↔ P (.d (.int (nextF i)), C) := by
  unfold m__law_next
  rw [wo_run1]
  unfold b__law_next
  have h1 : ((i + 7919) % 2147483647).natAbs < 2 ^ 64 := by omega
  simp [dVar, h1, nextF]
def turnT : DT := dTest (dOp gEqP (dOp gIx (dVar 1) (dVar 2)) (dC (.int 1)))
end Pg
set_option Elab.async false
set_option linter.all false
set_option maxRecDepth 100000
namespace Pg
open PySem PySem.Spec PyProof.Rows L2 Dn
variable {C : CS} {n : Nat} {P : SV × CS → Prop}
@[simp] theorem whole_eq {d : PyData} : Wo (m_is_whole [.d d] C) P ↔ P (.d (.bool (d.isInt && !d.isBool)), C) := by
  unfold m_is_whole
  rw [wo_run1]
  unfold b_is_whole
  cases d <;> simp [dVar, PyData.isInt, PyData.isBool]
@[simp] theorem from_to_eq {d : PyData} {lo hi : Int} : Wo (m_is_from_to [.d d, .d (.int lo), .d (.int hi)] C) P ↔ P (.d (.bool (wIn d lo hi)), C) := by
  unfold m_is_from_to
  rw [wo_run3]
  unfold b_is_from_to
  cases d <;> simp [dVar, PyData.isInt, PyData.isBool, wIn]
  split
  · simp_all
  · rename_i h
    simp [show ¬ lo ≤ _ from by omega]
theorem cord_eq {ts : List Int} {d : PyData} : Wo (m_is_cord [.d (.tuple (ts.map .int)), .d d] C) P ↔ P (.d (.bool (isCord ts d)), C) := by
  unfold m_is_cord
  rw [wo_run2]
  unfold b_is_cord
  cases d <;> simp [dVar, PyData.isTuple, isCord]
  rename_i xs
  by_cases h5 : xs.length = 5
  · obtain ⟨a, b, c, d, e, rfl⟩ := five h5
    simp
    cases ha : wIn a 0 (ts.length - 1) <;> simp
    rw [at_top ha]
    simp
    cases hb : wIn b 1 (topAt ts a - 1) <;> simp
    cases hc : wIn c 0 (ts.length - 1) <;> simp
    rw [at_top hc]
    simp
    cases hd : wIn d 1 (topAt ts c) <;> simp
  · rw [if_neg (by omega)]
    have := isCord_not5 (ts := ts) h5
    unfold isCord at this
    rw [this]
theorem tops_eq {d : PyData} : Wo (m_are_tops [.d d] C) P ↔ P (.d (.bool (isTops d)), C) := by
  unfold m_are_tops
  rw [wo_run1]
  unfold b_are_tops
  cases d <;> simp [dVar, PyData.isTuple, isTops]
  rename_i xs
  by_cases h1 : 1 ≤ xs.length
  · by_cases h7 : xs.length ≤ 7
    · rw [if_pos (by omega), if_pos (by omega), lcAll_eq (xs := xs) (fun t => .bool (wIn t 1 1000000)) (by simp [diSeq, dVar, rdS, pinOf]) (by omega) fun x hx D => ⟨_, rfl, [], by
        refine eq_of_wo ?_
        simp [dVar, wipeE]⟩]
      simp [fAll, h1, h7]
    · rw [if_pos (by omega), if_neg (by omega)]
      simp [h7]
  · rw [if_neg (by omega)]
    simp [h1]
theorem cords_eq {ts : List Int} {d : PyData} : Wo (m_are_cords [.d (.tuple (ts.map .int)), .d d] C) P ↔ P (.d (.bool (match d with | .tuple cs => decide (cs.length ≤ 10) && cs.all (isCord ts) | _ => false)), C) := by
  unfold m_are_cords
  rw [wo_run2]
  unfold b_are_cords
  cases d <;> simp [dVar, PyData.isTuple]
  rename_i xs
  by_cases h7 : xs.length ≤ 10
  · rw [if_neg (by omega), lcAll_eq (xs := xs) (fun t => .bool (isCord ts t)) (by simp [diSeq, dVar, rdS, pinOf]) (by omega) fun x hx D => ⟨_, rfl, [], by
        refine eq_of_wo ?_
        simp [dVar, wipeE]
        rw [cord_eq]⟩]
    simp [fAll, h7]
  · rw [if_pos (by omega)]
    simp [h7]
theorem house_eq {d : PyData} : Wo (m_is_house [.d d] C) P ↔ P (.d (.bool (isHouse d)), C) := by
  unfold m_is_house
  rw [wo_run1]
  unfold b_is_house
  cases d <;> simp [dVar, PyData.isTuple, isHouse]
  rename_i xs
  by_cases h5 : xs.length = 2
  · obtain ⟨a, b, rfl⟩ := two h5
    simp
    rw [tops_eq]
    cases ha : isTops a <;> simp
    obtain ⟨ts, rfl, ht⟩ := of_tops ha
    rw [cords_eq, ht]
    cases b <;> simp
  · rw [if_neg (by omega)]
    have := isHouse_not2 h5
    unfold isHouse at this
    rw [this]
theorem need_eq {x : PyData} (h : isHouse x = true) : Wo (m_need_house [.d x] C) P ↔ P (.d .none, C) := by
  unfold m_need_house
  rw [wo_run1]
  unfold b_need_house
  simp [dVar, house_eq, h]
end Pg
set_option Elab.async false
set_option linter.all false
set_option maxRecDepth 100000
namespace Pg
open PySem PySem.Spec PyProof.Rows L2 Dn
variable {C : CS} {n : Nat} {P : SV × CS → Prop}
def isLight (m : Int) (d : PyData) : Bool := match d with
  | .tuple [a, b] => wIn a 0 (m - 1) && wIn b 0 1000000
  | _ => false
theorem isLight_not2 {m : Int} {xs : List PyData} (h : xs.length ≠ 2) : isLight m (.tuple xs) = false := by
  unfold isLight
  split
  · rename_i e
    cases e
    exact absurd rfl h
  · rfl
section
variable {ts : List Int} {cs : PyData}
theorem candle_eq {d : PyData} : Wo (m_is_candle [.d (.tuple [.tuple (ts.map .int), cs]), .d d] C) P ↔ P (.d (.bool (wIn d 0 (ts.length - 1))), C) := by
  unfold m_is_candle
  rw [wo_run2]
  unfold b_is_candle
  simp [dVar]
theorem light_eq {d : PyData} : Wo (m_is_light [.d (.tuple [.tuple (ts.map .int), cs]), .d d] C) P ↔ P (.d (.bool (isLight ts.length d)), C) := by
  unfold m_is_light
  rw [wo_run2]
  unfold b_is_light
  cases d <;> simp [dVar, PyData.isTuple, isLight]
  rename_i xs
  by_cases h5 : xs.length = 2
  · obtain ⟨a, b, rfl⟩ := two h5
    simp
    rw [candle_eq]
    cases ha : wIn a 0 (ts.length - 1) <;> simp
  · rw [if_neg (by omega)]
    have := isLight_not2 (m := ts.length) h5
    unfold isLight at this
    rw [this]
end
def cand (d : PyData) : PyData := match d with
  | .tuple [a, b] => a
  | _ => .none
def lt2 (p : PyData × PyData) : Bool := match p with
  | (.int i, .int j) => decide (i < j)
  | _ => false
def risen (cs : List PyData) : Bool := (cs.zip cs.tail).all lt2
def areLights (m : Int) (d : PyData) : Bool := match d with
  | .tuple xs => xs.all (isLight m) && risen (xs.map cand)
  | _ => false
theorem light_cases {m : Int} {d : PyData} (h : isLight m d = true) : ∃ i b, d = .tuple [.int i, b] ∧ cand d = .int i ∧ 0 ≤ i := by
  unfold isLight at h
  split at h
  · rename_i a b
    cases a <;> simp [wIn] at h
    exact ⟨_, _, rfl, rfl, h.1.1⟩
  · cases h
theorem lcW_eq {fi : DI} {ws : List Nat} {g : DG} {f : DE} {ε : Ev} {xs : List PyData} {ps : List (Nat × List PyData)} {C1 : CS} (F : PyData → PyData) (hi : fi ε C = some (⟨xs, ps⟩, C1)) (hp : ∀ D, pinned ps (C1 ++ D)) (hl : xs.length ≤ 10000)
    (h : ∀ x ∈ xs, ∀ D, ∃ ε1, g (.d x) (wipeE ε ws) D = some (ε1, D) ∧ ∃ G, f ε1 D = some (.d (F x), D ++ G)) : dLc fi ws g dYes f ε C = some (.c C1.length, C1 ++ [some (xs.map F)]) := by
  unfold dLc
  rw [hi]
  show ((dLcL ps g dYes f C1.length xs (wipeE ε ws) (C1 ++ [some []])).map fun C2 => (SV.c C1.length, C2)) = _
  rw [lc_plain (ps := ps) hp (fun _ => true) F xs [] (by simpa using hl) fun x hx D => by
    obtain ⟨ε1, e1, G, e2⟩ := h x hx D
    exact ⟨ε1, e1, rfl, fun _ => ⟨G, e2⟩⟩]
  rw [List.filter_eq_self.mpr fun _ _ => rfl]
  simp
theorem pin_two {D : CS} {m k : Nat} {ys zs : List PyData} (h : cellAt D m = some ys) (h' : cellAt D k = some zs) : ∀ G, pinned [(m, ys), (k, zs)] (D ++ G) := fun G p hp => by
  rcases List.mem_cons.mp hp with rfl | hp
  · rw [cellAt_app (cellAt_lt h)]
    exact h
  · rw [List.mem_singleton.mp hp, cellAt_app (cellAt_lt h')]
    exact h'
theorem cut_tail {xs : List PyData} : Dn.cutD xs (some 1) none = xs.tail := by
  cases xs with
  | nil => rfl
  | cons x xs =>
    have e1 : HT.sIx (x :: xs).length 0 (some 1) = 1 := by
      simp [HT.sIx]
    have e2 : HT.sIx (x :: xs).length (x :: xs).length none = (x :: xs).length := by
      simp [HT.sIx]
    unfold Dn.cutD
    rw [e1, e2]
    simp
theorem rising_eq {m : Nat} {xs : List PyData} (h : cellAt C m = some xs) (hl : xs.length ≤ 10000) (hints : ∀ y ∈ xs, ∃ i : Int, y = .int i) : Wo (m_are_rising [.c m] C) P ↔ P (.d (.bool (risen xs)), C) := by
  unfold m_are_rising
  rw [wo_run1]
  unfold b_are_rising
  have hz : dIZip (dCons (dVar 0) (dCons (dCut (dVar 0) (dPart (dC (.int 1))) dNo) dNil)) [some (.c m), none, none] C = some (⟨(xs.zip xs.tail).map fun p => .tuple [p.1, p.2], [(m, xs), (C.length, xs.tail)]⟩, C ++ [some xs.tail]) := by
    refine eq_of_wo ?_
    have h2 : cellAt (C ++ [some xs.tail]) m = some xs := by rw [cellAt_app (cellAt_lt h)]; exact h
    simp [dIZip, dVar, dCut, dPart, gCut, dNo, rdT, rdL, pinOf, cut_tail, h, h2]
  have h2 : cellAt (C ++ [some xs.tail]) m = some xs := by rw [cellAt_app (cellAt_lt h)]; exact h
  simp
  rw [lcW_eq (fun t => match t with | .tuple [a, b] => .bool (lt2 (a, b)) | _ => .none) hz (pin_two h2 (by simp)) (by simp; omega) fun x hx D => by
    obtain ⟨⟨y, z⟩, hp, rfl⟩ := List.mem_map.mp hx
    obtain ⟨i, rfl⟩ := hints y (List.of_mem_zip hp).1
    obtain ⟨j, rfl⟩ := hints z (List.mem_of_mem_tail (List.of_mem_zip hp).2)
    refine ⟨[some (.c m), some (.d (.int i)), some (.d (.int j))], eq_of_wo ?_, [], eq_of_wo ?_⟩
    · simp [wipeE]
    · simp [dVar, lt2]]
  simp [fAll]
  show Wo (blsOf (List.map (fun p => .bool (lt2 p)) _)) _ ↔ _
  rw [blsOf_map]
  simp [risen]
theorem lights_eq {ts : List Int} {cs : PyData} {d : PyData} (hd : ∀ xs, d = .tuple xs → xs.length ≤ 10000) (hx : isHouse (.tuple [.tuple (ts.map .int), cs]) = true) : Wo (m_are_lights [.d (.tuple [.tuple (ts.map .int), cs]), .d d] C) P ↔ P (.d (.bool (areLights ts.length d)), C) := by
  unfold m_are_lights
  rw [wo_run2]
  unfold b_are_lights
  simp [dVar, need_eq hx]
  cases d <;> simp [PyData.isTuple, areLights]
  rename_i xs
  have hl := hd xs rfl
  rw [lcAll_eq (xs := xs) (fun t => .bool (isLight ts.length t)) (by simp [diSeq, dVar, rdS, pinOf]) hl fun x hx D => ⟨_, rfl, [], by
    refine eq_of_wo ?_
    simp [dVar, wipeE]
    rw [light_eq]⟩]
  simp [fAll]
  cases hall : xs.all (isLight ts.length)
  · simp_all
  have hall' : ∀ x ∈ xs, isLight ts.length x = true := List.all_eq_true.mp hall
  rw [if_neg (by simpa using hall')]
  rw [lcAll_eq (xs := xs) cand (by simp [diSeq, dVar, rdS, pinOf]) hl fun x hx D => by
    obtain ⟨i, b, rfl, e, _⟩ := light_cases (hall' x hx)
    refine ⟨[some (.d (.tuple [.tuple (ts.map .int), cs])), some (.d (.tuple xs)), none, some (.d (.int i)), some (.d b)], eq_of_wo ?_, [], ?_⟩
    · simp [wipeE]
    · simp [dVar, e]]
  have hints : ∀ y ∈ xs.map cand, ∃ i : Int, y = .int i := fun y hy => by
    obtain ⟨x, hx, rfl⟩ := List.mem_map.mp hy
    obtain ⟨i, b, _, e, _⟩ := light_cases (hall' x hx)
    exact ⟨i, e⟩
  simp
  rw [rising_eq (by simp) (by simp; exact hl) hints]
  simp
theorem needL_eq {ts : List Int} {cs : PyData} {d : PyData} (hd : ∀ xs, d = .tuple xs → xs.length ≤ 10000) (hx : isHouse (.tuple [.tuple (ts.map .int), cs]) = true) (hl : areLights ts.length d = true) : Wo (m_need_lights [.d (.tuple [.tuple (ts.map .int), cs]), .d d] C) P ↔ P (.d .none, C) := by
  unfold m_need_lights
  rw [wo_run2]
  unfold b_need_lights
  simp [dVar, lights_eq hd hx, hl]
end Pg
set_option Elab.async false
set_option linter.all false
set_option maxRecDepth 100000
namespace Pg
open PySem PySem.Spec PyProof.Rows L2 Dn
variable {C : CS} {n : Nat} {P : SV × CS → Prop}
noncomputable def flameB : DS := (dIfS (dTidyT (dTest (dOp gLe (dVar 3) (dVar 1)))) (dAsg (dTidy (dCall gMax2 (dCons (dC (.int 0)) (dCons (dOp Dn.gSub (dVar 4) (dOp Dn.gSub (dVar 1) (dVar 3))) dNil)))) (dName 2)) dNext)
theorem flame_loop {ps : List (Nat × List PyData)} {tl : SV} {beat : Int} {Ps : DO → Prop} (hp : pinned ps C) : ∀ (t : List Setg) (f : Int) (e3 e4 e5 : Option SV),
    (∀ e3 e4 e5, Ps (.nx [some tl, some (.d (.int beat)), some (.d (.int (t.foldl (flameStep beat) f))), e3, e4, e5] C)) →
    Wo (dLoop ps (dgTup 3 (dgCons (dName 3) (dgCons (dName 4) (dgCons (dName 5) dgNil)))) flameB (t.map setD) [some tl, some (.d (.int beat)), some (.d (.int f)), e3, e4, e5] C) Ps
  | [], f, e3, e4, e5, k => by
    rw [List.map_nil, loop_nil hp]
    exact k _ _ _
  | s :: t, f, e3, e4, e5, k => by
    rw [List.map_cons, loop_cons hp]
    simp only [setD, wo_gTup, wo_gCons, wo_name, wo_gNil, List.length_cons, List.length_nil, true_and]
    have hb : flameB [some tl, some (.d (.int beat)), some (.d (.int f)), some (.d (.int s.1)), some (.d (.int s.2.1)), some (.d (optD s.2.2))] C = some (.nx [some tl, some (.d (.int beat)), some (.d (.int (flameStep beat f s))), some (.d (.int s.1)), some (.d (.int s.2.1)), some (.d (optD s.2.2))] C) := by
      refine eq_of_wo ?_
      unfold flameB flameStep
      simp [dVar]
      split
      · rename_i h
        omega
      · rename_i h
        intro h'
        exact absurd h' h
    show Wo (flameB [some tl, some (.d (.int beat)), some (.d (.int f)), some (.d (.int s.1)), some (.d (.int s.2.1)), some (.d (optD s.2.2))] C) _
    rw [hb, wo_some]
    exact flame_loop hp t (flameStep beat f s) _ _ _ k
theorem flame_eq {t : List Setg} {beat : Int} : Wo (m_flame_in [.d (.tuple (t.map setD)), .d (.int beat)] C) P ↔ P (.d (.int (flame t beat)), C) := by
  have go : m_flame_in [.d (.tuple (t.map setD)), .d (.int beat)] C = some (.d (.int (flame t beat)), C) := by
    refine eq_of_wo ?_
    unfold m_flame_in
    rw [wo_run2]
    show Wo (dSeq (dAsg (dTidy (dC (.int 0))) (dName 2)) (dSeq (dFor (diSeq (dVar 0)) _ flameB) _) _ C) _
    simp
    rw [wo_for]
    simp [wo_iSeq, dVar, rdS, pinOf]
    refine flame_loop pin_nil t 0 _ _ _ fun e3 e4 e5 => ?_
    simp [dVar, flame]
  rw [go]
  exact wo_some
@[simp] theorem q0 {a b c : PyData} : L2.atI [a, b, c] 0 = some a := rfl
theorem with_eq {t : List Setg} {b h r : Int} (hl : t.length ≤ 8000) : Wo (m_with_ember [.d (taleD t), .d (.int b), .d (.int h), .d (.int r)] C) P ↔ P (.d (taleD (taleStep t (b, h, r))), C) := by
  have go : m_with_ember [.d (taleD t), .d (.int b), .d (.int h), .d (.int r)] C = some (.d (taleD (taleStep t (b, h, r))), C) := by
    refine eq_of_wo ?_
    unfold m_with_ember
    rw [wo_run]
    · unfold b_with_ember
      simp only [wo_seq, wo_ifS, wo_tidyT, wo_and]
      rw [wo_truT (xs := t.map setD) (by rfl)]
      unfold taleStep
      cases t with
      | nil =>
        simp [dVar, Dn.gTup, rdS, setD]
        split
        · simp [optD]
        · simp [optD]
      | cons s t =>
        simp [dVar, flame_eq]
        split
        · rename_i hf
          rw [if_neg (by omega)]
          rfl
        · rename_i hf
          have e : ∀ x : PyData, List.map SV.d ((s :: t).map setD) ++ [SV.d x] = List.map SV.d ((s :: t).map setD ++ [x]) := fun x => by simp
          rw [if_pos (by omega)]
          simp only [rdS, wo_some]
          have g1 : ∀ y : PyData, Dn.gTup [SV.d (.int b), SV.d (.int h), SV.d y] C = some (.d (.tuple [.int b, .int h, y]), C) := fun y => by simp [Dn.gTup]
          split
          · rename_i hr
            rw [g1, wo_some, e, gTup_ds (by simp at hl ⊢; omega)]
            simp [setD, optD, hr]
          · rename_i hr
            rw [g1, wo_some, e, gTup_ds (by simp at hl ⊢; omega)]
            simp [setD, optD, hr]
    · rfl
  rw [go]
  exact wo_some
/-- whether an ember was sent, reckoned -/
def sentB (cs : List Cord) (T : List (List Setg)) (b r : Int) : Bool := if r = -1 then true else match cs[r.toNat]? with
  | some cd => decide (flame (T.getD cd.1.toNat []) (b - cd.2.2.2.2) = cd.2.1)
  | none => false
theorem atD {xs : List PyData} {i : Int} {x : PyData} (h0 : 0 ≤ i) (h : xs[i.toNat]? = some x) : L2.atI xs i = some x := by
  have := L2.atI_nat (xs := xs) (j := i.toNat) h
  rwa [show ((i.toNat : Nat) : Int) = i by omega] at this
theorem tale_at {T : List (List Setg)} {x : Int} (h0 : 0 ≤ x) (h1 : x < T.length) : L2.atI (T.map taleD) x = some (taleD (T.getD x.toNat [])) := by
  refine atD h0 ?_
  rw [List.getElem?_map, List.getElem?_eq_getElem (by omega), List.getD_eq_getElem?_getD, List.getElem?_eq_getElem (by omega)]
  rfl
theorem sent_eq {ts : List Int} {cs : List Cord} {T : List (List Setg)} {m : Nat} {b r : Int} (hm : cellAt C m = some (T.map taleD)) (hc : ∀ cd ∈ cs, 0 ≤ cd.1 ∧ cd.1 < T.length) (hr : r = -1 ∨ 0 ≤ r ∧ r < cs.length) :
    Wo (m_is_sent [.d (houseD ts cs), .c m, .d (.int b), .d (.int r)] C) P ↔ P (.d (.bool (sentB cs T b r)), C) := by
  have go : m_is_sent [.d (houseD ts cs), .c m, .d (.int b), .d (.int r)] C = some (.d (.bool (sentB cs T b r)), C) := by
    refine eq_of_wo ?_
    unfold m_is_sent
    rw [wo_run]
    · unfold b_is_sent sentB
      simp [dVar]
      split
      · rename_i h
        exact .inl h
      · rename_i h
        have h0 : 0 ≤ r := by omega
        have h1 : r.toNat < cs.length := by omega
        have ea : L2.atI (cs.map cordD) r = some (cordD cs[r.toNat]) := atD h0 (by rw [List.getElem?_map, List.getElem?_eq_getElem h1]; rfl)
        obtain ⟨c0, c1⟩ := hc _ (List.getElem_mem h1)
        simp [houseD, ea, cordD, hm, tale_at c0 c1, flame_eq]
        rw [List.getElem?_eq_getElem h1]
        simp [h]
    · rfl
  rw [go]
  exact wo_some
noncomputable def fromB : DS := (dIfS (dTidyT (dAnd (dTest (dOp gEqP (dVar 6) (dVar 1))) (dTest (dOp gLe (dVar 7) (dVar 3))))) (dDrop (dTidy (dApp (dVar 4) (dCall Dn.gTup (dCons (dOp gAdd (dOp Dn.gSub (dOp gAdd (dVar 2) (dVar 3)) (dVar 7)) (dVar 10)) (dCons (dVar 8) (dCons (dVar 9) (dCons (dVar 5) dNil)))))))) dNext)
/-- the embers of a flame, cord by cord -/
def fromL : Nat → List Cord → Int → Int → Int → List Bn.PE
  | _, [], _, _, _ => []
  | i, cd :: cs, x, b, h => (if cd.1 = x ∧ cd.2.1 ≤ h then [(b + h - cd.2.1 + cd.2.2.2.2, cd.2.2.1, cd.2.2.2.1, (i : Int))] else []) ++ fromL (i + 1) cs x b h
theorem from_bn {cs : List Cord} {x b h : Int} : fromL 0 cs x b h = Bn.embersFrom cs x b h := by
  have : ∀ (cs : List Cord) (i : Nat), fromL i cs x b h = ((cs.zipIdx i).filter fun p => decide (Bn.Cord.one p.1 = x ∧ Bn.Cord.at_ p.1 ≤ h)).map fun p => (b + h - Bn.Cord.at_ p.1 + Bn.Cord.lng p.1, Bn.Cord.oth p.1, Bn.Cord.to p.1, (p.2 : Int)) := by
    intro cs
    induction cs with
    | nil => intro i; rfl
    | cons cd cs ih =>
      intro i
      unfold fromL
      rw [ih, List.zipIdx_cons]
      by_cases hc : cd.1 = x ∧ cd.2.1 ≤ h
      · rw [if_pos hc, List.filter_cons_of_pos (by simpa using hc)]
        rfl
      · rw [if_neg hc, List.filter_cons_of_neg (by simpa using hc)]
        rfl
  exact this cs 0
theorem from_loop {hd : SV} {x b h : Int} {Ps : DO → Prop} : ∀ (cs : List Cord) (i : Nat) (acc : List Bn.PE) (e5 e6 e7 e8 e9 e10 : Option SV), acc.length + cs.length ≤ 100 →
    (∀ e5 e6 e7 e8 e9 e10, Ps (.nx [some hd, some (.d (.int x)), some (.d (.int b)), some (.d (.int h)), some (.c C.length), e5, e6, e7, e8, e9, e10] (C ++ [some ((acc ++ fromL i cs x b h).map peD)]))) →
    Wo (dLoop [] (dgTup 2 (dgCons (dName 5) (dgCons (dgTup 5 (dgCons (dName 6) (dgCons (dName 7) (dgCons (dName 8) (dgCons (dName 9) (dgCons (dName 10) dgNil)))))) dgNil))) fromB ((cs.map cordD).zipIdx i |>.map fun p => PyData.tuple [.int (p.2 : Nat), p.1]) [some hd, some (.d (.int x)), some (.d (.int b)), some (.d (.int h)), some (.c C.length), e5, e6, e7, e8, e9, e10] (C ++ [some (acc.map peD)])) Ps
  | [], i, acc, e5, e6, e7, e8, e9, e10, hl, k => by
    simp only [List.map_nil, List.zipIdx_nil]
    rw [loop_nil pin_nil]
    have := k e5 e6 e7 e8 e9 e10
    simpa [fromL] using this
  | cd :: cs, i, acc, e5, e6, e7, e8, e9, e10, hl, k => by
    simp only [List.map_cons, List.zipIdx_cons]
    rw [loop_cons pin_nil]
    simp only [cordD, wo_gTup, wo_gCons, wo_name, wo_gNil, List.length_cons, List.length_nil, true_and]
    have hb : fromB [some hd, some (.d (.int x)), some (.d (.int b)), some (.d (.int h)), some (.c C.length), some (.d (.int i)), some (.d (.int cd.1)), some (.d (.int cd.2.1)), some (.d (.int cd.2.2.1)), some (.d (.int cd.2.2.2.1)), some (.d (.int cd.2.2.2.2))] (C ++ [some (acc.map peD)]) =
        some (.nx [some hd, some (.d (.int x)), some (.d (.int b)), some (.d (.int h)), some (.c C.length), some (.d (.int i)), some (.d (.int cd.1)), some (.d (.int cd.2.1)), some (.d (.int cd.2.2.1)), some (.d (.int cd.2.2.2.1)), some (.d (.int cd.2.2.2.2))] (C ++ [some ((acc ++ (if cd.1 = x ∧ cd.2.1 ≤ h then [(b + h - cd.2.1 + cd.2.2.2.2, cd.2.2.1, cd.2.2.2.1, (i : Int))] else [])).map peD)])) := by
      refine eq_of_wo ?_
      unfold fromB
      simp only [List.length_cons] at hl
      simp [dVar, dApp, Dn.gTup]
      split
      · split
        · rename_i h1 h2
          rw [if_pos ⟨h1, h2⟩]
          exact ⟨by omega, rfl⟩
        · rename_i h1 h2
          intro _
          omega
      · rename_i h1
        intro h3
        exact (h1 h3).elim
    show Wo (fromB [some hd, some (.d (.int x)), some (.d (.int b)), some (.d (.int h)), some (.c C.length), some (.d (.int i)), some (.d (.int cd.1)), some (.d (.int cd.2.1)), some (.d (.int cd.2.2.1)), some (.d (.int cd.2.2.2.1)), some (.d (.int cd.2.2.2.2))] (C ++ [some (acc.map peD)])) _
    rw [hb, wo_some]
    refine from_loop cs (i + 1) _ _ _ _ _ _ _ ?_ fun e5 e6 e7 e8 e9 e10 => ?_
    · simp only [List.length_cons] at hl
      rw [List.length_append]
      split
      · simp
        omega
      · simp
        omega
    · have := k e5 e6 e7 e8 e9 e10
      simpa [fromL] using this
theorem from_eq {ts : List Int} {cs : List Cord} {x b h : Int} (hc : cs.length ≤ 10) (k : P (.c C.length, C ++ [some ((Bn.embersFrom cs x b h).map peD)])) : Wo (m_embers_from [.d (houseD ts cs), .d (.int x), .d (.int b), .d (.int h)] C) P := by
  unfold m_embers_from
  rw [wo_run]
  · show Wo (dSeq (dAsg (dTidy (dCall gLst dNil)) (dName 4)) (dSeq (dFor _ _ fromB) _) _ C) _
    simp only [wo_seq, wo_asg, wo_tidy, wo_call, wo_nil]
    simp [gLst, fin]
    rw [wo_for]
    have hr : Wo (dIEnum (dCons (dOp gIx (dVar 0) (dC (.int 1))) dNil) [some (.d (houseD ts cs)), some (.d (.int x)), some (.d (.int b)), some (.d (.int h)), some (.c C.length), none, none, none, none, none, none] (C ++ [some []])) fun y => y = (⟨pairs (cs.map cordD), []⟩, C ++ [some []]) := by
      simp [dIEnum, dVar, houseD, rdT]
    refine hr.mono ?_
    rintro _ rfl
    refine from_loop (x := x) (b := b) (h := h) cs 0 [] none none none none none none (by simp; omega) fun e5 e6 e7 e8 e9 e10 => ?_
    rw [from_bn]
    simp [dVar, fin]
    exact k
  · rfl
end Pg
set_option Elab.async false
set_option linter.all false
set_option maxRecDepth 100000
namespace Pg
open PySem PySem.Spec PyProof.Rows L2 Dn
variable {C : CS} {n : Nat} {P : SV × CS → Prop}
theorem sentB_iff {cs : List Cord} {T : List (List Setg)} {b x h r : Int} (hr : r = -1 ∨ 0 ≤ r ∧ r < cs.length) : sentB cs T b r = true ↔ Bn.Sent cs T (b, x, h, r) := by
  unfold sentB Bn.Sent
  by_cases h1 : r = -1
  · simp [h1]
  · have h0 : 0 ≤ r := by omega
    have hl : r.toNat < cs.length := by omega
    rw [if_neg h1, List.getElem?_eq_getElem hl]
    simp only [decide_eq_true_eq]
    constructor
    · intro hf
      exact .inr ⟨r.toNat, cs[r.toNat], by omega, List.getElem?_eq_getElem hl, hf⟩
    · rintro (h2 | ⟨i, cd, hi, hcd, hf⟩)
      · exact (h1 h2).elim
      · have : i = r.toNat := by omega
        subst this
        rw [List.getElem?_eq_getElem hl] at hcd
        cases hcd
        exact hf
theorem rank_of {ts : List Int} {cs : List Cord} {ls : List Lgt} {T : List (List Setg)} {p : Bn.PE} (h : Bn.Pot ts cs ls T p) : p.2.2.2 = -1 ∨ 0 ≤ p.2.2.2 ∧ p.2.2.2 < cs.length := by
  rcases h with ⟨l, _, rfl⟩ | ⟨i, cd, hcd, s, _, _, rfl⟩
  · exact .inl rfl
  · have := (List.getElem?_eq_some_iff.mp hcd).1
    exact .inr ⟨by simp only; omega, by simp only; omega⟩
noncomputable def pushB : DS := (dDrop (dTidy (dCall gHpush (dCons (dVar 4) (dCons (dVar 10) dNil)))))
noncomputable def goB : DS := (dSeq (dAsg (dTidy (dCall gHpop (dCons (dVar 4) dNil))) (dgTup 4 (dgCons (dName 6) (dgCons (dName 7) (dgCons (dName 8) (dgCons (dName 9) dgNil))))))
    (dSeq (dAsg (dTidy (dCall m_with_ember (dCons (dOp gIx (dVar 3) (dVar 7)) (dCons (dVar 6) (dCons (dVar 8) (dCons (dVar 9) dNil)))))) (dName 5))
    (dIfS (dTidyT (dAnd (dTest (dOp gNeP (dVar 5) (dOp gIx (dVar 3) (dVar 7)))) (dTest (dCall m_is_sent (dCons (dVar 0) (dCons (dVar 3) (dCons (dVar 6) (dCons (dVar 9) dNil)))))))) (dSeq (dAsg (dTidy (dVar 5)) (dgSub (dVar 3) (dVar 7)))
    (dFor (diSeq (dCall m_embers_from (dCons (dVar 0) (dCons (dVar 7) (dCons (dVar 6) (dCons (dVar 8) dNil)))))) (dName 10) pushB)) dNext)))
abbrev st (C : CS) (T : List (List Setg)) (q : List Bn.PE) (G : CS) : CS := C ++ (some (T.map taleD) :: some (q.map peD) :: G)
abbrev ev (hd ld td : PyData) (p : Nat) (e5 e6 e7 e8 e9 e10 : Option SV) : Ev := [some (.d hd), some (.d ld), some (.d td), some (.c p), some (.c (p + 1)), e5, e6, e7, e8, e9, e10]
theorem push_loop {hd ld td : PyData} {T : List (List Setg)} {G : CS} {es : List PyData} {m : Nat} {e5 e6 e7 e8 e9 : Option SV} {Ps : DO → Prop} (hm : ∀ q, cellAt (st C T q G) m = some es) :
    ∀ (ps : List Bn.PE) (q : List Bn.PE) (e10 : Option SV), q.length + ps.length ≤ 1900 →
    (∀ e10, Ps (.nx (ev hd ld td C.length e5 e6 e7 e8 e9 e10) (st C T (Bn.pushAll q ps) G))) → Wo (dLoop [(m, es)] (dName 10) pushB (ps.map peD) (ev hd ld td C.length e5 e6 e7 e8 e9 e10) (st C T q G)) Ps
  | [], q, e10, hl, k => by
    rw [List.map_nil, loop_nil (fun p hp => by rw [List.mem_singleton.mp hp]; exact hm q)]
    exact k e10
  | p :: ps, q, e10, hl, k => by
    simp only [List.length_cons] at hl
    rw [List.map_cons, loop_cons (fun p hp => by rw [List.mem_singleton.mp hp]; exact hm q)]
    rw [wo_name]
    have hb : pushB (ev hd ld td C.length e5 e6 e7 e8 e9 (some (.d (peD p)))) (st C T q G) = some (.nx (ev hd ld td C.length e5 e6 e7 e8 e9 (some (.d (peD p)))) (st C T (Hq.push Bn.peLt q p) G)) := by
      refine eq_of_wo ?_
      unfold pushB
      simp only [wo_drop, wo_tidy, wo_call, wo_cons, wo_nil]
      simp [dVar]
      rw [wo_hpush (q := q) (by simp) (by omega)]
      simp
    show Wo (pushB (ev hd ld td C.length e5 e6 e7 e8 e9 (some (.d (peD p)))) (st C T q G)) _
    rw [hb, wo_some]
    refine push_loop hm ps (Hq.push Bn.peLt q p) _ ?_ k
    rw [Hq.push_perm.length_eq, List.length_cons]
    omega
theorem go_step {ts : List Int} {cs : List Cord} {ls : List Lgt} {T : List (List Setg)} {q : List Bn.PE} {k : Bn.PE} {G : CS} {ld td : PyData} {e5 e6 e7 e8 e9 e10 : Option SV} (h : Bn.HouseOk ts cs) (hl : Bn.LightsOk ts ls) (t7 : ts.length ≤ 7) (c10 : cs.length ≤ 10)
    (iv : Bn.Inv ts cs ls T q k) (hq : q ≠ []) (hm : Bn.meas ts cs T q ≤ 1800) (hT : ∀ t ∈ T, t.length + Bn.meas ts cs T q ≤ 1800) :
    Wo (goB (ev (houseD ts cs) ld td C.length e5 e6 e7 e8 e9 e10) (st C T q G)) fun o => ∃ T' q' k' G' e5 e6 e7 e8 e9 e10, o = .nx (ev (houseD ts cs) ld td C.length e5 e6 e7 e8 e9 e10) (st C T' q' G') ∧
      Bn.Inv ts cs ls T' q' k' ∧ Bn.meas ts cs T' q' < Bn.meas ts cs T q ∧ ∀ t ∈ T', t.length + Bn.meas ts cs T' q' ≤ 1800 := by
  obtain ⟨p, rest, hpop, hperm, hheap, hmin⟩ := Hq.pop_some Bn.peOrd iv.heap hq
  have hmin' : ∀ r ∈ rest, Bn.pLe p r := fun r hr => Bn.le_iff.mp (hmin r hr)
  have hpq : p ∈ q := hperm.symm.subset (by simp)
  obtain ⟨hpp, hkp⟩ := iv.pot p hpq
  obtain ⟨r0, r1, r2, _⟩ := hpp.range h hl
  have hrk := rank_of hpp
  have hlen := iv.len
  have hql : q.length ≤ 1800 := by
    unfold Bn.meas at hm
    omega
  have hx : p.2.1 < T.length := by omega
  have htale := tale_at r0 hx
  have htl : (T.getD p.2.1.toNat []).length ≤ 1000 ∨ True := .inr trivial
  obtain ⟨b, x, hh, r⟩ := p
  simp only at r0 r1 r2 hrk hx htale
  have hmemT : T.getD x.toNat [] ∈ T := by
    rw [List.getD_eq_getElem?_getD, List.getElem?_eq_getElem (by omega)]
    exact List.getElem_mem _
  have hms := Bn.meas_skip (ts := ts) (cs := cs) (T := T) hperm
  unfold goB
  refine Dn.seq_of (fun e D => e = ev (houseD ts cs) ld td C.length e5 (some (.d (.int b))) (some (.d (.int x))) (some (.d (.int hh))) (some (.d (.int r))) e10 ∧ D = st C T rest G) ?_ fun e D he => ?_
  · simp only [wo_asg, wo_tidy, wo_call, wo_cons, wo_nil]
    simp [dVar]
    rw [wo_hpop (q := q) (by simp) (by omega) hpop]
    simp [peD]
  rw [he.1, he.2]
  clear he e D
  refine Dn.seq_of (fun e D => e = ev (houseD ts cs) ld td C.length (some (.d (taleD (taleStep (T.getD x.toNat []) (b, hh, r))))) (some (.d (.int b))) (some (.d (.int x))) (some (.d (.int hh))) (some (.d (.int r))) e10 ∧ D = st C T rest G) ?_ fun e D he => ?_
  · simp only [wo_asg, wo_tidy, wo_call, wo_cons, wo_nil]
    simp [dVar, htale]
    rw [with_eq (by have := hT _ hmemT; rw [List.getD_eq_getElem?_getD] at this; omega)]
    simp
  rw [he.1, he.2]
  clear he e D
  have hse : ∀ D, cellAt D C.length = some (T.map taleD) → m_is_sent [.d (houseD ts cs), .c C.length, .d (.int b), .d (.int r)] D = some (.d (.bool (sentB cs T b r)), D) := fun D hD => eq_of_wo ((sent_eq hD (fun cd hcd => by
      have := h.cord cd hcd
      exact ⟨this.one0, by have := this.one1; rw [iv.len]; exact this⟩) hrk).mpr rfl)
  have hs1 := hse (st C T rest G) (by simp)
  have hsi := sentB_iff (cs := cs) (T := T) (b := b) (x := x) (h := hh) hrk
  have hskip := fun hc => iv.skip h hl hperm hmin' hheap hc
  have hset := fun hc => iv.set h hl hperm hmin' hheap hc
  have hmeas := fun hc => Bn.meas_set h hl iv hperm hc
  have hfit := fits_tale (taleStep (T.getD x.toNat []) (b, hh, r)) (T.getD x.toNat [])
  have heqv := eqv_step (t := T.getD x.toNat []) (e := (b, hh, r))
  have hta : Bn.taleAt T x = T.getD x.toNat [] := rfl
  have hts : Bn.taleStep (T.getD x.toNat []) (b, hh, r) = taleStep (T.getD x.toNat []) (b, hh, r) := rfl
  have hlen' : (taleStep (T.getD x.toNat []) (b, hh, r)).length ≤ (T.getD x.toNat []).length + 1 := by
    unfold taleStep
    split <;> simp
  simp only [hta, hts] at hskip hset hmeas
  generalize taleStep (T.getD x.toNat []) (b, hh, r) = t' at *
  generalize T.getD x.toNat [] = tx at *
  simp only [wo_ifS, wo_tidyT, wo_and, wo_test', wo_op]
  simp [dVar, htale, hfit, heqv, hs1]
  by_cases he : t' = tx
  · have iv2 := hskip (fun hc => hc.1 he)
    rw [if_pos he]
    refine ⟨T, rest, ⟨rfl, rfl⟩, ⟨_, _, _, _, iv2⟩, hms, fun t ht => ?_⟩
    have := hT t ht
    omega
  · rw [if_neg he]
    split
    · rename_i hb
      have hc : t' ≠ tx ∧ Bn.Sent cs T (b, x, hh, r) := ⟨he, hsi.mp hb⟩
      have iv2 := hset hc
      have ms := hmeas hc.1
      have hix : L2.ixN T.length x = some x.toNat := by
        unfold L2.ixN
        rw [if_pos r0, if_pos hx]
      simp [dgSub, dVar, hix]
      rw [wo_for, wo_iSeq, wo_call]
      simp [dVar]
      rw [show (List.map taleD T).set x.toNat (taleD t') = (T.set x.toNat t').map taleD by rw [List.map_set]]
      refine from_eq c10 ?_
      have hst : (C ++ some ((T.set x.toNat t').map taleD) :: some (List.map peD rest) :: G) ++ [some ((Bn.embersFrom cs x b hh).map peD)] = st C (T.set x.toNat t') rest (G ++ [some ((Bn.embersFrom cs x b hh).map peD)]) := by simp
      rw [hst]
      have hel := Bn.embersFrom_len (cs := cs) (x := x) (b := b) (h := hh)
      have hrl : rest.length + 1 = q.length := by rw [hperm.length_eq]; simp
      have hcell : ∀ q', cellAt (st C (T.set x.toNat t') q' (G ++ [some ((Bn.embersFrom cs x b hh).map peD)])) (C.length + (G.length + 2)) = some ((Bn.embersFrom cs x b hh).map peD) := fun q' => by
        have := cellAt_at (C := C) (l := some ((T.set x.toNat t').map taleD) :: some (q'.map peD) :: (G ++ [some ((Bn.embersFrom cs x b hh).map peD)])) (k := G.length + 2)
        rw [this]
        unfold cellAt
        simp
      have hlen2 : List.length (C ++ some ((T.set x.toNat t').map taleD) :: some (List.map peD rest) :: G) = C.length + (G.length + 2) := by simp
      rw [hlen2]
      simp only [rdS, rdL, pinOf]
      rw [hcell, wo_some]
      refine push_loop hcell _ rest e10 (by omega) fun e10' => ?_
      refine ⟨T.set x.toNat t', _, ⟨_, _, _, _, _, _, _, rfl⟩, ⟨_, _, _, _, iv2⟩, ms, fun t ht => ?_⟩
      rcases List.mem_or_eq_of_mem_set ht with ht | rfl
      · have := hT t ht
        omega
      · have := hT tx hmemT
        omega
    · rename_i hb
      have iv2 := hskip (fun hc => hb (hsi.mpr hc.2))
      refine ⟨T, rest, ⟨rfl, rfl⟩, ⟨_, _, _, _, iv2⟩, hms, fun t ht => ?_⟩
      have := hT t ht
      omega
theorem go_loop {ts : List Int} {cs : List Cord} {ls : List Lgt} {ld td : PyData} {Ps : DO → Prop} (h : Bn.HouseOk ts cs) (hl : Bn.LightsOk ts ls) (t7 : ts.length ≤ 7) (c10 : cs.length ≤ 10)
    (kk : ∀ T G e5 e6 e7 e8 e9 e10, Bn.IsTales ts cs ls T → Ps (.nx (ev (houseD ts cs) ld td C.length e5 e6 e7 e8 e9 e10) (st C T [] G))) : ∀ (m : Nat) (T : List (List Setg)) (q : List Bn.PE) (k : Bn.PE) (G : CS) (e5 e6 e7 e8 e9 e10 : Option SV),
    Bn.Inv ts cs ls T q k → Bn.meas ts cs T q < m → Bn.meas ts cs T q ≤ 1800 → (∀ t ∈ T, t.length + Bn.meas ts cs T q ≤ 1800) → Wo (dWhN (dTru (dVar 4)) goB m (ev (houseD ts cs) ld td C.length e5 e6 e7 e8 e9 e10) (st C T q G)) Ps
  | 0, _, _, _, _, _, _, _, _, _, _, _, hm, _, _ => by omega
  | m + 1, T, q, k, G, e5, e6, e7, e8, e9, e10, iv, hm, hb, hT => by
    rw [wo_whN, wo_truL (m := C.length + 1) (xs := q.map peD) (by rfl) (by simp)]
    cases q with
    | nil => exact kk T G _ _ _ _ _ _ (iv.done h)
    | cons p r =>
      rw [if_pos (by simp)]
      refine (go_step h hl t7 c10 iv (by simp) hb hT).mono ?_
      rintro _ ⟨T', q', k', G', e5', e6', e7', e8', e9', e10', rfl, iv', hlt, hT'⟩
      exact go_loop h hl t7 c10 kk m T' q' k' G' _ _ _ _ _ _ iv' (by omega) (by omega) hT'
theorem top_at {ts : List Int} {x : Int} (h0 : 0 ≤ x) (h1 : x < ts.length) : L2.atI (ts.map PyData.int) x = some (.int (Bn.topOf ts x)) := by
  refine atD h0 ?_
  rw [List.getElem?_map, List.getElem?_eq_getElem (by omega)]
  unfold Bn.topOf
  rw [List.getD_eq_getElem?_getD, List.getElem?_eq_getElem (by omega)]
  rfl
theorem burnt_spec {ts : List Int} {cs : List Cord} {ls : List Lgt} (h : Bn.HouseOk ts cs) (hl : Bn.LightsOk ts ls) (t7 : ts.length ≤ 7) (c10 : cs.length ≤ 10) (l7 : ls.length ≤ 7)
    (k : ∀ T, Bn.IsTales ts cs ls T → P (.d (.tuple (T.map taleD)), C)) : Wo (m_burnt_tales [.d (houseD ts cs), .d (.tuple (ls.map lgtD))] C) P := by
  unfold m_burnt_tales
  rw [wo_run2]
  unfold b_burnt_tales
  refine Dn.seq_of (fun e D => e = [some (.d (houseD ts cs)), some (.d (.tuple (ls.map lgtD))), some (.d (.tuple (ts.map .int))), none, none, none, none, none, none, none, none] ∧ D = C) ?_ fun e D he => ?_
  · simp [dVar, houseD]
  rw [he.1, he.2]
  clear he e D
  refine Dn.seq_of (fun e D => e = [some (.d (houseD ts cs)), some (.d (.tuple (ls.map lgtD))), some (.d (.tuple (ts.map .int))), some (.c C.length), none, none, none, none, none, none, none] ∧ D = C ++ [some ((List.replicate ts.length ([] : List Setg)).map taleD)]) ?_ fun e D he => ?_
  · simp [dVar, gLst, Dn.gTup, gMulT, gMul]
    refine ⟨by omega, ?_⟩
    simp [fin]
  rw [he.1, he.2]
  clear he e D
  refine Dn.seq_of (fun e D => e = ev (houseD ts cs) (.tuple (ls.map lgtD)) (.tuple (ts.map .int)) C.length none none none none none none ∧ D = C ++ [some ((List.replicate ts.length ([] : List Setg)).map taleD), some ((ls.map fun l => ((l.2, l.1, Bn.topOf ts l.1, -1) : Bn.PE)).map peD)]) ?_ fun e D he => ?_
  · simp only [wo_asg, wo_tidy]
    rw [lcAll_eq (xs := ls.map lgtD) (fun x => match x with | .tuple [.int c, .int b] => peD (b, c, Bn.topOf ts c, -1) | _ => .none) (by simp [diSeq, dVar, rdS, pinOf]) (by simp; omega) fun x hx D => by
      obtain ⟨l, hlm, rfl⟩ := List.mem_map.mp hx
      obtain ⟨l0, l1, _⟩ := hl l hlm
      refine ⟨[some (.d (houseD ts cs)), some (.d (.tuple (ls.map lgtD))), some (.d (.tuple (ts.map .int))), some (.c C.length), none, none, some (.d (.int l.2)), some (.d (.int l.1)), none, none, none], eq_of_wo ?_, [], eq_of_wo ?_⟩
      · simp [wipeE, lgtD]
      · simp [dVar, top_at l0 l1, Dn.gTup, lgtD, peD]]
    simp [fin]
    intro a b hab
    rfl
  rw [he.1, he.2]
  clear he e D
  have hms : Bn.meas ts cs (List.replicate ts.length []) (Hq.heapify Bn.peLt (ls.map fun l => ((l.2, l.1, Bn.topOf ts l.1, -1) : Bn.PE))) ≤ 1800 := by
    rw [Bn.meas_start]
    have h1 : (cs.length + 1) * (ts.length * (ts.length + cs.length + 1)) ≤ 11 * (7 * 18) := Nat.mul_le_mul (by omega) (Nat.mul_le_mul t7 (by omega))
    omega
  refine Dn.seq_of (fun e D => e = ev (houseD ts cs) (.tuple (ls.map lgtD)) (.tuple (ts.map .int)) C.length none none none none none none ∧ D = st C (List.replicate ts.length []) (Hq.heapify Bn.peLt (ls.map fun l => ((l.2, l.1, Bn.topOf ts l.1, -1) : Bn.PE))) []) ?_ fun e D he => ?_
  · simp only [wo_drop, wo_tidy, wo_call, wo_cons, wo_nil]
    have h4 : ∀ D, (dVar 4) (ev (houseD ts cs) (.tuple (ls.map lgtD)) (.tuple (ts.map .int)) C.length none none none none none none) D = some (.c (C.length + 1), D) := fun D => rfl
    rw [h4, wo_some, wo_heapify (q := ls.map fun l => ((l.2, l.1, Bn.topOf ts l.1, -1) : Bn.PE)) (by simp) (by simp; omega)]
    simp
  rw [he.1, he.2]
  clear he e D
  refine Dn.seq_of (fun e D => ∃ T G e5 e6 e7 e8 e9 e10, Bn.IsTales ts cs ls T ∧ e = ev (houseD ts cs) (.tuple (ls.map lgtD)) (.tuple (ts.map .int)) C.length e5 e6 e7 e8 e9 e10 ∧ D = st C T [] G) ?_ fun e D he => ?_
  · show Wo (dWhN (dTru (dVar 4)) goB 100000 _ _) _
    exact go_loop h hl t7 c10 (fun T G e5 e6 e7 e8 e9 e10 hT => ⟨_, _, rfl, T, G, e5, e6, e7, e8, e9, e10, hT, rfl, rfl⟩) 100000 _ _ _ _ _ _ _ _ _ _ (Bn.Inv.start hl h) (by omega) hms (fun t ht => by
      rw [List.eq_of_mem_replicate ht]
      simpa using hms)
  · obtain ⟨T, G, e5, e6, e7, e8, e9, e10, hT, rfl, rfl⟩ := he
    simp [dVar, gTuple, rdL]
    exact k T hT
end Pg
set_option Elab.async false
set_option linter.all false
set_option maxRecDepth 100000
namespace Pg
open PySem PySem.Spec PyProof.Rows L2 Dn
variable {C : CS} {n : Nat} {P : SV × CS → Prop}
def catchesOf (cs : List Cord) (tls : List (List Setg)) : List (Option Int) := cs.map fun cd => catchOf (tls.getD cd.1.toNat []) cd.2.1
theorem lits_are {n : Nat} {ls : List Lgt} (h : Lits n ls) : areLights n (.tuple (ls.map lgtD)) = true := by
  have h1 : (ls.map lgtD).all (isLight n) = true := by
    rw [List.all_eq_true]
    intro x hx
    obtain ⟨l, hl, rfl⟩ := List.mem_map.mp hx
    have := h.ok l hl
    simp [lgtD, isLight, wIn]
    omega
  have h2 : risen ((ls.map lgtD).map cand) = true := by
    have e : (ls.map lgtD).map cand = (ls.map Prod.fst).map PyData.int := by
      rw [List.map_map, List.map_map]
      exact List.map_congr_left fun l _ => rfl
    rw [e]
    unfold risen
    have r := h.rise
    generalize ls.map Prod.fst = is at r
    rw [List.all_eq_true]
    induction is with
    | nil => simp
    | cons a t ih =>
      cases t with
      | nil => simp
      | cons b t =>
        intro p hp
        simp only [List.map_cons, List.tail_cons, List.zip_cons_cons] at hp
        rcases List.mem_cons.mp hp with rfl | hp
        · have := (List.pairwise_cons.mp r).1 b (by simp)
          simpa [lt2] using this
        · exact ih (List.pairwise_cons.mp r).2 p (by simpa using hp)
  unfold areLights
  simp only [h1, h2]
  rfl
theorem isHouse_of {ts : List Int} {cs : List Cord} (ht : Tops ts) (hc : cs.length ≤ 10) (h : Bn.HouseOk ts cs) (hb : ∀ cd ∈ cs, cd.2.2.2.2 ≤ 1000000) : isHouse (houseD ts cs) = true := by
  unfold houseD
  simp only [isHouse, isTops_of ht, Bool.true_and, Bool.and_eq_true, decide_eq_true_eq, List.all_eq_true]
  refine ⟨by simpa using hc, fun x hx => ?_⟩
  obtain ⟨cd, hcd, rfl⟩ := List.mem_map.mp hx
  have k := h.cord cd hcd
  have k1 := k.one0
  have k2 := k.one1
  have k3 := k.at0
  have k4 := k.at1
  have k5 := k.oth0
  have k6 := k.oth1
  have k7 := k.to0
  have k8 := k.to1
  have k9 := k.lng
  have k10 := hb cd hcd
  simp only [Bn.topOf, List.getD_eq_getElem?_getD, Bn.Cord.one, Bn.Cord.at_, Bn.Cord.oth, Bn.Cord.to, Bn.Cord.lng] at k1 k2 k3 k4 k5 k6 k7 k8 k9
  simp [cordD, isCord, tsOf, wIn, topAt, List.getD_eq_getElem?_getD]
  omega
end Pg
set_option Elab.async false
set_option linter.all false
set_option maxRecDepth 100000
namespace Pg
open PySem PySem.Spec PyProof.Rows L2 Dn
end Pg
set_option Elab.async false
set_option linter.all false
set_option maxRecDepth 100000
namespace Dn
open PySem PySem.Spec PyProof.Rows L2
open Evl (Ex Ex.refl Ex.trans Ex.new fresh_back ex_l ex_t ex_rd)
/-! ### a value that is kept as data -/
def dFz (f : DE) : DE := fun ε C => (f ε C).bind fun (r, C1) => (frz r C1).map fun (x, C2) => (.d x, C2.take C.length)
theorem se_fz {K : PySem.W.Frag} {te : TE} {f : DE} (h : SE K te f) : SE K te (dFz f) := fun σ H ε C μ I w s r C' e Q q => by
  obtain ⟨⟨p, C1⟩, e1, e⟩ := Option.bind_eq_some_iff.mp e
  obtain ⟨⟨x, C2⟩, e2, e⟩ := Option.map_eq_some_iff.mp e
  cases e
  refine h σ H ε C μ I w s p C1 e1 _ fun J ν H1 v l1 w1 r1 => ?_
  obtain ⟨L, l2, w2, d2⟩ := frz_ok w1 r1 e2
  have hk : C.length = μ.length := w.len
  rw [hk] at q
  obtain ⟨m, hm⟩ := l1.pre
  have hν : ν.take μ.length = μ := by rw [hm]; simp
  have w3 := w2.cut μ.length
  rw [hν] at w3
  exact q L μ H1 v ⟨l1.ex.trans l2.ex, [], by simp⟩ w3 d2
section
variable {X : Cx}
/-- a list and a list, whichever -/
def rCatL (K : PySem.W.Frag) : R2 := fun x y H Q => ∃ l b xs zs, x = .ref l ∧ y = .ref b ∧ SqL K H l xs ∧ SqL K H b zs ∧ xs.length + zs.length ≤ sizeLine ∧ ∀ p, H p = none → Q (.ref p) (upd H p (.lst (xs ++ zs)))
theorem op_catL : OpR X (binaryOp .Add) (rCatL X.K) := by
  intro pins s σ H x y v u Q I rx ry h
  obtain ⟨l, b, xs, zs, rfl, rfl, hH, hB, hz, q⟩ := h
  cases rx
  cases ry
  obtain ⟨its, r, p, hp⟩ := I.list hH
  obtain ⟨its2, r2, p2, hp2⟩ := I.list hB
  obtain ⟨o, n, e, hc, hd, hda⟩ := p
  obtain ⟨o2, n2, e2, hc2, hd2, hda2⟩ := p2
  obtain ⟨c, dd, da, sl⟩ := o
  obtain ⟨c2, dd2, da2, sl2⟩ := o2
  simp only at hc hd hda hc2 hd2 hda2
  subst hc hd hda hc2 hd2 hda2
  have l1 := r.length
  have l2 := r2.length
  have ea : its.toArray ++ its2.toArray = (its ++ its2).toArray := by simp
  refine concat_meets ⟨_, e, rfl⟩ ⟨_, e2, rfl⟩ noFill_list_add seq_list_add PySem.F.slot_list_add PySem.F.entry_list_add (PySem.F.args_list_add_2 _ _) (list_addW l b its.toArray its2.toArray n n2 none none sl sl2 (by rw [List.size_toArray, List.size_toArray]; omega)) ⟨e, e2, ?_⟩
  rw [ea]
  exact ⟨.ref _, _, I.lnew (t' := s.toks) (r.append r2) (by rw [List.length_append]; omega), rfl, q _ I.fresh⟩
end
abbrev rAddV (K : PySem.W.Frag) : R2 := fun x y H Q => (fun x y H Q => rI0 (fun i j => .int (i + j)) x y H Q ∨ rCatN K x y H Q) x y H Q ∨ rCatL K x y H Q
theorem op_addV {X : Cx} : OpR X (binaryOp .Add) (rAddV X.K) := (op_add.or op_catN).or op_catL
def gAddV (a b : SV) (C : CS) : Option (SV × CS) := match a, b with
  | .d (.int i), .d (.int j) => some (.d (.int (i + j)), C)
  | .d (.tuple xs), .d (.tuple ys) => if xs.length + ys.length ≤ 10000 then some (.d (.tuple (xs ++ ys)), C) else none
  | a, b => (rdL a C).bind fun xs => (rdL b C).bind fun ys => if xs.length + ys.length ≤ 10000 then some (.c C.length, C ++ [some (xs ++ ys)]) else none
theorem rk_addV {K : PySem.W.Frag} : R2K K (rAddV K) gAddV := fun I C μ H w x y a b ra rb q C' e Q k => by
  unfold gAddV at e
  split at e
  · cases e
    exact .inl (.inl ⟨_, _, rv_int ra, rv_int rb, k I μ H _ Le.refl w (Dq.int _)⟩)
  · rename_i xs ys
    split at e
    · rename_i hl
      cases e
      have h1 : Dq K I x (.tuple xs) := ra
      have h2 : Dq K I y (.tuple ys) := rb
      cases h1 with
      | tup g1 t1 =>
        cases h2 with
        | tup g2 t2 =>
          rename_i a1 vs1 a2 vs2
          have l1 := t1.len
          have l2 := t2.len
          refine .inl (.inr ⟨a1, a2, vs1, vs2, rfl, rfl, ex_t w.ex g1.t, ex_t w.ex g2.t, by rw [l1, l2]; exact le_line hl, fun z => ?_, fun _ z => ?_, fun _ _ p ob hob hp => ?_⟩)
          · subst z
            cases t1
            exact k I μ H _ Le.refl w (Dq.tup g2 t2)
          · subst z
            cases t2
            rw [List.append_nil] at k
            exact k I μ H _ Le.refl w (Dq.tup g1 t1)
          · obtain ⟨w3, l3, h3⟩ := w.newD (o := .frz ob (.tup (vs1 ++ vs2))) hp
            exact k _ _ _ _ l3 w3 (Dq.tup (SqN.of hob h3) ((t1.app t2).up l3.ex))
    · cases e
  · obtain ⟨xs, e1, e⟩ := Option.bind_eq_some_iff.mp e
    obtain ⟨ys, e2, e⟩ := Option.bind_eq_some_iff.mp e
    split at e
    · rename_i hl
      cases e
      obtain ⟨a1, vs1, rfl, h3, h4⟩ := rdL_ok w ra e1
      obtain ⟨a2, vs2, rfl, k3, k4⟩ := rdL_ok w rb e2
      refine .inr ⟨a1, a2, vs1, vs2, rfl, rfl, h3, k3, by rw [h4.len, k4.len]; exact le_line hl, fun p hp => ?_⟩
      obtain ⟨w3, l3, g3⟩ := w.newC hp (h4.app k4)
      exact k _ _ _ _ l3 w3 ⟨p, g3, rfl⟩
    · cases e
end Dn
set_option Elab.async false
set_option linter.all false
set_option maxRecDepth 100000
namespace Dn
open PySem PySem.Spec PyProof.Rows L2
open Evl (Ex Ex.refl Ex.trans Ex.new fresh_back ex_l ex_t ex_rd)
/-! ### max(xs, default=z) of a list of data that can be compared -/
end Dn
set_option Elab.async false
set_option linter.all false
set_option maxRecDepth 100000
namespace Dn
open PySem PySem.Spec PyProof.Rows L2
open Evl (Ex Ex.refl Ex.trans Ex.new fresh_back ex_l ex_t ex_rd)
/-! ### a comprehension with two fors -/
theorem wipe_idem {ws : List Nat} {σ : L2.St} : L2.wipe (L2.wipe σ ws) ws = L2.wipe σ ws := by
  have g : ∀ (vs : List Nat) (τ : L2.St), (∀ i ∈ vs, ∀ x, τ[i]? = some x → x = none) → L2.wipe τ vs = τ := by
    intro vs
    induction vs with
    | nil => intro τ _; rfl
    | cons v vs ih =>
      intro τ hτ
      show (L2.wipe τ vs).set v none = τ
      rw [ih τ fun i hi => hτ i (List.mem_cons_of_mem _ hi)]
      refine List.ext_getElem? fun j => ?_
      by_cases hj : v = j
      · subst hj
        rw [List.getElem?_set]
        simp only [if_true]
        by_cases hl : v < τ.length
        · rw [if_pos hl]
          have := hτ v List.mem_cons_self _ (List.getElem?_eq_getElem hl)
          rw [List.getElem?_eq_getElem hl, this]
        · rw [if_neg hl, List.getElem?_eq_none (by omega)]
      · rw [List.getElem?_set_ne hj]
  refine g ws _ fun i hi x hx => ?_
  cases x with
  | none => rfl
  | some v => exact absurd hi (wipe_some hx).2
open Classical in
/-- the turns of a for within a comprehension: what was made meanwhile is let go -/
noncomputable def dLcT (ps : List (Nat × List PyData)) (g : DG) (t : DT) (f : DE) (n m : Nat) : List PyData → Ev → CS → Option CS
  | [], _, C => if pinned ps C then some C else none
  | x :: xs, ε, C => if pinned ps C then (g (.d x) ε C).bind fun (ε1, C1) => (t ε1 C1).bind fun (b, C2) => if b = true then (f ε1 C2).bind fun (r, C3) => (frz r C3).bind fun (y, C4) => (cellAt C4 n).bind fun acc =>
      if acc.length < 10000 then dLcT ps g t f n m xs ε ((C4.set n (some (acc ++ [y]))).take m) else none
      else dLcT ps g t f n m xs ε (C2.take m)
    else none
section
variable {K : PySem.W.Frag}
/-- the inner turns -/
theorem lc_inner {gt : TG} {tt : TT} {te : TE} {g : DG} {t : DT} {f : DE} {ws : List Nat} (hg : SGW K ws gt g) (ht : ST K tt t) (hf : SE K te f) {σ : L2.St} {ε : Ev} {I0 : Hp} {π : List Addr} {P : Addr} {n m : Nat} (hP : π[n]? = some P) (hn : π.length = m) (s : WS K I0 π σ ε)
    {it : ITD} {jt : It} (ok : ItOk K I0 π it jt) {D : CS} {H : Hp} (w0 : WC K I0 D π H) {D' : CS} (e : dLcT it.pins g t f n m it.items (wipeE ε ws) D = some D') {Nx : Hp → Prop} (hN : ∀ I' H', Le I0 π I' π → WC K I' D' π H' → Nx H') :
    ∃ W1 : Nat → Nat → Hp → Prop, (∃ m, W1 0 m H) ∧ ∀ j k H, W1 j k H → (jt.stop j H ∧ Nx H) ∨ (jt.go j H ∧ ∃ Nx1 : Hp → Prop, (∀ H', Nx1 H' → ∃ k', k' < k ∧ W1 (j + 1) k' H') ∧ ∀ x H', jt.yld j H x H' → gt x (L2.wipe σ ws) H' fun σ3 H5 => L2.wipe σ3 ws = L2.wipe σ ws ∧ tt σ3 H5 fun b H6 =>
        if b = true then te σ3 H6 fun y H7 => ∃ acc, H7 P = some (.lst acc) ∧ acc.length < sizeLine ∧ Nx1 (upd H7 P (.lst (acc ++ [y]))) else Nx1 H6) := by
  refine ⟨fun i c H' => c = it.items.length - i ∧ i ≤ it.items.length ∧ ∃ D I', Le I0 π I' π ∧ WC K I' D π H' ∧ dLcT it.pins g t f n m (it.items.drop i) (wipeE ε ws) D = some D', ⟨_, rfl, Nat.zero_le _, _, I0, Le.refl, w0, e⟩, ?_⟩
  rintro i c H' ⟨rfl, hi', D, I', l3, w3, e3⟩
  by_cases hlt : i < it.items.length
  · rw [List.drop_eq_getElem_cons hlt] at e3
    unfold dLcT at e3
    split at e3
    · rename_i hp
      obtain ⟨⟨ε1, D1⟩, e4, e3⟩ := Option.bind_eq_some_iff.mp e3
      obtain ⟨⟨b, D2⟩, e5, e3⟩ := Option.bind_eq_some_iff.mp e3
      obtain ⟨k1, k2⟩ := ok I' _ D H' l3 w3 hp
      obtain ⟨k3, k4⟩ := k1 i _ (List.getElem?_eq_getElem hlt)
      refine .inr ⟨k3, fun H'' => ∃ D I', Le I0 π I' π ∧ WC K I' D π H'' ∧ dLcT it.pins g t f n m (it.items.drop (i + 1)) (wipeE ε ws) D = some D', fun H'' hx => ⟨_, by omega, rfl, by omega, hx⟩, fun v H2 y => ?_⟩
      obtain ⟨M, l4, w4, d4⟩ := k4 v H2 y
      have sw : WS K M π (L2.wipe σ ws) (wipeE ε ws) := WS.wipe (s.up (l3.trans l4)) ws
      refine hg _ H2 _ D _ M w4 sw v (.d _) d4 ε1 D1 e4 _ fun N ξ H3 σ3 l5 w5 s5 z5 => ⟨z5.trans wipe_idem, ?_⟩
      refine ht σ3 H3 ε1 D1 ξ N w5 s5 b D2 e5 _ fun N2 ξ2 H4 l6 w6 => ?_
      have l46 := (l4.trans l5).trans l6
      have back : ∀ {B : Hp} {ρ : List Addr} {E : CS} {G : Hp}, Le I' π B ρ → WC K B E ρ G → Le I0 π B π ∧ WC K B (E.take m) π G := fun {B ρ E G} l w => by
        obtain ⟨x, hx⟩ := l.pre
        have hr : ρ.take m = π := by rw [hx, List.take_append_of_le_length (by omega), List.take_of_length_le (by omega)]
        refine ⟨⟨l3.ex.trans l.ex, [], by simp⟩, ?_⟩
        have := w.cut m
        rw [hr] at this
        exact this
      cases b with
      | false =>
        obtain ⟨b1, b2⟩ := back l46 w6
        exact ⟨_, _, b1, b2, e3⟩
      | true =>
        obtain ⟨⟨r, D3⟩, e6, e3⟩ := Option.bind_eq_some_iff.mp (show ((f ε1 D2).bind _) = some D' from e3)
        obtain ⟨⟨y, D4⟩, e7, e3⟩ := Option.bind_eq_some_iff.mp e3
        obtain ⟨acc, e8, e3⟩ := Option.bind_eq_some_iff.mp e3
        split at e3
        · rename_i hacc
          refine hf σ3 H4 ε1 D2 ξ2 N2 w6 (s5.up l6) r D3 e6 _ fun N3 ξ3 H5 v5 l7 w7 r7 => ?_
          obtain ⟨N4, l8, w8, d8⟩ := frz_ok w7 r7 e7
          have l48 := (l46.trans l7).trans l8
          obtain ⟨a, vs, h3, h4, h5, h6⟩ := w8.cell _ _ (cellAt_of e8)
          have ha : a = P := Option.some.inj (h3.symm.trans (l48.at_ hP))
          rw [ha] at h3 h5
          refine ⟨vs, h5, by rw [h6.len]; exact Nat.lt_of_lt_of_le hacc (by decide), ?_⟩
          have w9 := w8.put (cellAt_of e8) h3 (h6.app (.cons d8 .nil))
          obtain ⟨b1, b2⟩ := back l48 w9
          exact ⟨_, _, b1, b2, e3⟩
        · cases e3
    · cases e3
  · have hz : it.items.drop i = [] := List.drop_eq_nil_of_le (by omega)
    rw [hz] at e3
    unfold dLcT at e3
    split at e3
    · rename_i hp
      cases e3
      obtain ⟨k1, k2⟩ := ok I' _ D' H' l3 w3 hp
      have : i = it.items.length := by omega
      subst this
      exact .inl ⟨k2, hN I' H' l3 w3⟩
    · cases e3
open Classical in
noncomputable def dLc2L (ps : List (Nat × List PyData)) (g : DG) (t : DT) (fi1 : DI) (vs1 : List Nat) (g1 : DG) (t1 : DT) (f : DE) (n : Nat) : List PyData → Ev → CS → Option CS
  | [], _, C => if pinned ps C then some C else none
  | x :: xs, ε, C => if pinned ps C then (g (.d x) ε C).bind fun (ε1, C1) => (t ε1 C1).bind fun (b, C2) => if b = true then (fi1 ε1 C2).bind fun (it, C3) => (dLcT it.pins g1 t1 f n C3.length it.items (wipeE ε1 vs1) C3).bind fun C4 => dLc2L ps g t fi1 vs1 g1 t1 f n xs ε (C4.take (n + 1))
      else dLc2L ps g t fi1 vs1 g1 t1 f n xs ε (C2.take (n + 1))
    else none
noncomputable def dLc2 (fi : DI) (vs : List Nat) (g : DG) (t : DT) (fi1 : DI) (vs1 : List Nat) (g1 : DG) (t1 : DT) (f : DE) : DE := fun ε C => (fi ε C).bind fun (it, C1) => (dLc2L it.pins g t fi1 vs1 g1 t1 f C1.length it.items (wipeE ε vs) (C1 ++ [some []])).map fun C2 => (.c C1.length, C2)
theorem se_lc2 {wi wi1 : TI} {gt gt1 : TG} {tt tt1 : TT} {te : TE} {fi fi1 : DI} {g g1 : DG} {t t1 : DT} {f : DE} {ws ws1 : List Nat} (hi : SI K wi fi) (hg : SGW K ws gt g) (ht : ST K tt t) (hi1 : SI K wi1 fi1) (hg1 : SGW K ws1 gt1 g1) (ht1 : ST K tt1 t1) (hf : SE K te f) :
    SE K (tLc2 wi gt tt wi1 gt1 tt1 te ws ws1) (dLc2 fi ws g t fi1 ws1 g1 t1 f) := fun σ H ε C μ I w s r C' e Q q => by
  obtain ⟨⟨it, C1⟩, e1, e⟩ := Option.bind_eq_some_iff.mp e
  obtain ⟨C2, e2, e⟩ := Option.map_eq_some_iff.mp e
  cases e
  refine hi σ H ε C μ I w s it C1 e1 _ fun J ν H1 jt l1 w1 ok => fun P hP => ?_
  obtain ⟨w2, l2, h2⟩ := w1.newC hP (vs := []) (xs := []) .nil
  have hn : C1.length = ν.length := w1.len
  have q1 := q.up (l1.trans l2)
  refine ⟨fun i m H' => m = it.items.length - i ∧ i ≤ it.items.length ∧ ∃ D I', Le J (ν ++ [P]) I' (ν ++ [P]) ∧ WC K I' D (ν ++ [P]) H' ∧ dLc2L it.pins g t fi1 ws1 g1 t1 f C1.length (it.items.drop i) (wipeE ε ws) D = some C',
    ⟨_, rfl, Nat.zero_le _, _, J, Le.refl, w2, e2⟩, ?_⟩
  rintro i m H' ⟨rfl, hi', D, I', l3, w3, e3⟩
  have l13 := (l1.trans l2).trans l3
  have pn : (ν ++ [P]).length = C1.length + 1 := by rw [hn]; simp
  by_cases hlt : i < it.items.length
  · rw [List.drop_eq_getElem_cons hlt] at e3
    unfold dLc2L at e3
    split at e3
    · rename_i hp
      obtain ⟨⟨ε1, D1⟩, e4, e3⟩ := Option.bind_eq_some_iff.mp e3
      obtain ⟨⟨b, D2⟩, e5, e3⟩ := Option.bind_eq_some_iff.mp e3
      obtain ⟨k1, k2⟩ := ok I' _ D H' (l2.trans l3) w3 hp
      obtain ⟨k3, k4⟩ := k1 i _ (List.getElem?_eq_getElem hlt)
      refine .inr ⟨k3, fun H'' => ∃ D I', Le J (ν ++ [P]) I' (ν ++ [P]) ∧ WC K I' D (ν ++ [P]) H'' ∧ dLc2L it.pins g t fi1 ws1 g1 t1 f C1.length (it.items.drop (i + 1)) (wipeE ε ws) D = some C', fun H'' hx => ⟨_, by omega, rfl, by omega, hx⟩, fun v H2 y => ?_⟩
      obtain ⟨M, l4, w4, d4⟩ := k4 v H2 y
      have sw : WS K M (ν ++ [P]) (L2.wipe σ ws) (wipeE ε ws) := WS.wipe (s.up (l13.trans l4)) ws
      refine hg _ H2 _ D _ M w4 sw v (.d _) d4 ε1 D1 e4 _ fun N ξ H3 σ3 l5 w5 s5 z5 => ⟨z5.trans wipe_idem, ?_⟩
      refine ht σ3 H3 ε1 D1 ξ N w5 s5 b D2 e5 _ fun N2 ξ2 H4 l6 w6 => ?_
      have l46 := (l4.trans l5).trans l6
      have back : ∀ {B : Hp} {ρ : List Addr} {E : CS} {G : Hp}, Le I' (ν ++ [P]) B ρ → WC K B E ρ G → ρ.take (C1.length + 1) = ν ++ [P] ∧ Le J (ν ++ [P]) B (ν ++ [P]) ∧ WC K B (E.take (C1.length + 1)) (ν ++ [P]) G := fun {B ρ E G} l w => by
        obtain ⟨x, hx⟩ := l.pre
        have hr : ρ.take (C1.length + 1) = ν ++ [P] := by rw [hx, List.take_append_of_le_length (by omega), List.take_of_length_le (by omega)]
        refine ⟨hr, ⟨l3.ex.trans l.ex, [], by simp⟩, ?_⟩
        have := w.cut (C1.length + 1)
        rw [hr] at this
        exact this
      cases b with
      | false =>
        obtain ⟨_, b1, b2⟩ := back l46 w6
        exact ⟨_, _, b1, b2, e3⟩
      | true =>
        obtain ⟨⟨it1, D3⟩, e6, e3⟩ := Option.bind_eq_some_iff.mp (show ((fi1 ε1 D2).bind _) = some C' from e3)
        obtain ⟨D4, e7, e3⟩ := Option.bind_eq_some_iff.mp e3
        refine hi1 σ3 H4 ε1 D2 ξ2 N2 w6 (s5.up l6) it1 D3 e6 _ fun N3 ξ3 H5 jt1 l7 w7 ok1 => ?_
        have l47 := l46.trans l7
        have hP3 : ξ3[C1.length]? = some P := l47.at_ (l3.at_ h2)
        refine lc_inner hg1 ht1 hf hP3 w7.len.symm ((s5.up l6).up l7) ok1 w7 e7 fun I2 H6 l8 w8 => ?_
        obtain ⟨_, b1, b2⟩ := back (l47.trans l8) w8
        exact ⟨_, _, b1, b2, e3⟩
    · cases e3
  · have hz : it.items.drop i = [] := List.drop_eq_nil_of_le (by omega)
    rw [hz] at e3
    unfold dLc2L at e3
    split at e3
    · rename_i hp
      cases e3
      obtain ⟨k1, k2⟩ := ok I' _ C' H' (l2.trans l3) w3 hp
      have : i = it.items.length := by omega
      subst this
      exact .inl ⟨k2, q1 I' _ H' _ l3 w3 ⟨P, by rw [l3.at_ h2], rfl⟩⟩
    · cases e3
end
end Dn
set_option Elab.async false
set_option linter.all false
set_option maxRecDepth 100000
namespace Dn
open PySem PySem.Spec PyProof.Rows L2 RZ
open Evl (Ex Ex.refl Ex.trans Ex.new fresh_back ex_l ex_t ex_rd)
/-! ### zip of lists and tuples, in any mix -/
end Dn
set_option Elab.async false
set_option linter.all false
set_option maxRecDepth 100000
namespace Dn
open PySem PySem.Spec PyProof.Rows L2
/-! ### what the names hold, lists with what is in them -/
inductive AV where
  | dat (x : PyData)
  | lst (xs : List PyData)
  | pen (k : Nat)
  | nst (xss : List (List PyData))
  | ro (xs : List PyData)
  | rn (xss : List (List PyData))
  | wn (xss : List (List PyData))
abbrev AE := List (Option AV)
def AV.cell : AV → Bool
  | .lst _ => true
  | .pen _ => true
  | _ => false
/-- lists of lists, and what is only read -/
def AV.x : AV → Bool
  | .nst _ => true
  | .ro _ => true
  | .rn _ => true
  | .wn _ => true
  | _ => false
/-- a list of lists that may be written -/
def AV.ns : AV → Option (List (List PyData))
  | .nst xss => some xss
  | .wn xss => some xss
  | _ => none
def AV.holds (C : CS) (n : Nat) : AV → Prop
  | .lst xs => cellAt C n = some xs
  | .pen k => ∃ q : List Int, q.length = k ∧ cellAt C n = some (q.map .int)
  | _ => False
/-- what stands ahead of a def, and the pens that are handed in -/
structure FB where
  b : CS
  ps : List (Nat × Nat)
  ns : Option (Nat × Nat)
/-- a cell that is none of a list of lists handed in -/
def FB.out (B : FB) (n : Nat) : Prop := ∀ q c, B.ns = some (q, c) → n < q ∨ q + c ≤ n
structure Fr (B : FB) (C : CS) : Prop where
  long : B.b.length ≤ C.length
  old : ∀ m, m < B.b.length → (∀ k, (m, k) ∉ B.ps) → B.out m → C[m]? = B.b[m]?
  pens : ∀ n k, (n, k) ∈ B.ps → n < B.b.length ∧ ∃ q : List Int, q.length = k ∧ cellAt C n = some (q.map .int)
/-- lists of lists, and what is only read -/
structure XR (B : FB) (A : AE) (ε : Ev) (C : CS) : Prop where
  nst : ∀ (i : Nat) v xss, A[i]? = some (some v) → v.ns = some xss → ∃ m, ε[i]? = some (some (.b m xss.length)) ∧ (v = .nst xss ∧ B.b.length ≤ m ∨ v = .wn xss ∧ B.ps = [] ∧ B.ns = some (m, xss.length)) ∧ (∀ (j : Nat) xs, xss[j]? = some xs → cellAt C (m + j) = some xs) ∧ ∀ (l n : Nat) w, A[l]? = some (some w) → w.cell = true → ε[l]? = some (some (.c n)) → n < m ∨ m + xss.length ≤ n
  one : ∀ (i j : Nat) v w xss yss, A[i]? = some (some v) → A[j]? = some (some w) → v.ns = some xss → w.ns = some yss → i = j
  ro : ∀ (i : Nat) xs, A[i]? = some (some (.ro xs)) → B.ps = [] ∧ ∃ r, ε[i]? = some (some r) ∧ rdD r B.b = some (.list xs) ∧ ∀ n, r = .c n → B.out n
  rn : ∀ (i : Nat) xss, A[i]? = some (some (.rn xss)) → B.ps = [] ∧ ∃ m, ε[i]? = some (some (.b m xss.length)) ∧ (∀ (j : Nat) xs, xss[j]? = some xs → cellAt B.b (m + j) = some xs) ∧ ∀ j, j < xss.length → B.out (m + j)
theorem AV.ns_x {v : AV} {xss : List (List PyData)} (h : v.ns = some xss) : v.x = true := by cases v <;> first | rfl | cases h
theorem XR.mono {B : FB} {A A' : AE} {ε ε' : Ev} {C C' : CS} (h : XR B A ε C)
    (e1 : ∀ (i : Nat) v, v.x = true → A'[i]? = some (some v) → A[i]? = some (some v) ∧ ε'[i]? = ε[i]?)
    (e2 : ∀ (l n : Nat) w, A'[l]? = some (some w) → w.cell = true → ε'[l]? = some (some (.c n)) → (∃ w', A[l]? = some (some w') ∧ w'.cell = true ∧ ε[l]? = some (some (.c n))) ∨ C.length ≤ n)
    (e3 : ∀ (i : Nat) v xss m j, A[i]? = some (some v) → v.ns = some xss → ε[i]? = some (some (.b m xss.length)) → j < xss.length → cellAt C' (m + j) = cellAt C (m + j)) : XR B A' ε' C' := by
  refine ⟨fun i v xss e hv => ?_, fun i j v w xss yss e f hv hw => h.one i j v w xss yss (e1 i _ (AV.ns_x hv) e).1 (e1 j _ (AV.ns_x hw) f).1 hv hw, fun i xs e => ?_, fun i xss e => ?_⟩
  · obtain ⟨k1, k2⟩ := e1 i _ (AV.ns_x hv) e
    obtain ⟨m, h1, h2, h3, h4⟩ := h.nst i v xss k1 hv
    refine ⟨m, by rw [k2]; exact h1, h2, fun j xs ej => ?_, fun l n w el hw f => ?_⟩
    · rw [e3 i v xss m j k1 hv h1 (List.getElem?_eq_some_iff.mp ej).1]
      exact h3 j xs ej
    · rcases e2 l n w el hw f with ⟨w', g1, g2, g3⟩ | hn
      · exact h4 l n w' g1 g2 g3
      · cases hl : xss.length with
        | zero => omega
        | succ z =>
          have := h3 z (xss[z]'(by omega)) (List.getElem?_eq_getElem (by omega))
          have := cellAt_lt this
          omega
  · obtain ⟨k1, k2⟩ := e1 i _ rfl e
    obtain ⟨h0, r, h1, h2⟩ := h.ro i xs k1
    exact ⟨h0, r, by rw [k2]; exact h1, h2⟩
  · obtain ⟨k1, k2⟩ := e1 i _ rfl e
    obtain ⟨h0, m, h1, h2⟩ := h.rn i xss k1
    exact ⟨h0, m, by rw [k2]; exact h1, h2⟩
structure Rel (B : FB) (A : AE) (ε : Ev) (C : CS) : Prop where
  len : ε.length = A.length
  dat : ∀ (i : Nat) x, A[i]? = some (some (.dat x)) → ε[i]? = some (some (.d x))
  cel : ∀ (i : Nat) v, A[i]? = some (some v) → v.cell = true → ∃ n, ε[i]? = some (some (.c n)) ∧ v.holds C n ∧ (B.b.length ≤ n ∨ ∃ k, v = .pen k ∧ (n, k) ∈ B.ps)
  sep : ∀ (i j : Nat) v w n, A[i]? = some (some v) → A[j]? = some (some w) → v.cell = true → w.cell = true → ε[i]? = some (some (.c n)) → ε[j]? = some (some (.c n)) → i = j
  fr : Fr B C
  x : XR B A ε C
section
variable {B : FB} {C C' G : CS} {A A' : AE} {ε : Ev}
theorem AV.holds_lt {v : AV} {n : Nat} (h : v.holds C n) : n < C.length := by
  cases v with
  | lst xs => exact cellAt_lt h
  | pen k => obtain ⟨q, _, h⟩ := h; exact cellAt_lt h
  | _ => exact h.elim
theorem AV.holds_same {v : AV} {n : Nat} (h : v.holds C n) (e : cellAt C' n = cellAt C n) : v.holds C' n := by
  cases v with
  | lst xs => exact e.trans h
  | pen k => obtain ⟨q, h1, h2⟩ := h; exact ⟨q, h1, e.trans h2⟩
  | _ => exact h.elim
theorem AV.not_x {v : AV} (h : v.cell = true) : v.x = false := by cases v <;> first | rfl | cases h
theorem AV.holds_app {v : AV} {n : Nat} (h : v.holds C n) : v.holds (C ++ G) n := AV.holds_same h (cellAt_app (AV.holds_lt h))
theorem Rel.lst (h : Rel B A ε C) (i : Nat) (xs : List PyData) (e : A[i]? = some (some (.lst xs))) : ∃ n, ε[i]? = some (some (.c n)) ∧ cellAt C n = some xs ∧ B.b.length ≤ n := by
  obtain ⟨n, h1, h2, h3⟩ := h.cel i _ e rfl
  refine ⟨n, h1, h2, ?_⟩
  rcases h3 with h3 | ⟨k, h3, _⟩
  · exact h3
  · cases h3
theorem Fr.app (h : Fr B C) : Fr B (C ++ G) := by
  refine ⟨by rw [List.length_append]; have := h.long; omega, fun m hm hk ho => ?_, fun n k hk => ?_⟩
  · rw [List.getElem?_append_left (by have := h.long; omega)]
    exact h.old m hm hk ho
  · obtain ⟨h1, q, h2, h3⟩ := h.pens n k hk
    exact ⟨h1, q, h2, by rw [cellAt_app (cellAt_lt h3)]; exact h3⟩
theorem Rel.long (h : Rel B A ε C) : B.b.length ≤ C.length := h.fr.long
theorem XR.blk (h : XR B A ε C) {i m j : Nat} {v : AV} {xss : List (List PyData)} (e : A[i]? = some (some v)) (hv : v.ns = some xss) (f : ε[i]? = some (some (.b m xss.length))) (hj : j < xss.length) : cellAt C (m + j) = some (xss[j]'hj) ∧ m + j < C.length := by
  obtain ⟨m', h1, h2, h3, h4⟩ := h.nst i v xss e hv
  rw [f] at h1
  cases h1
  have := h3 j _ (List.getElem?_eq_getElem hj)
  exact ⟨this, cellAt_lt this⟩
theorem XR.app (h : XR B A ε C) : XR B A ε (C ++ G) := h.mono (fun i v _ e => ⟨e, rfl⟩) (fun l n w e hw f => .inl ⟨w, e, hw, f⟩) fun i v xss m j e hv f hj => cellAt_app (h.blk e hv f hj).2
theorem XR.cells (h : XR B A ε C) (k : ∀ (i : Nat) v xss m j, A[i]? = some (some v) → v.ns = some xss → ε[i]? = some (some (.b m xss.length)) → j < xss.length → cellAt C' (m + j) = cellAt C (m + j)) : XR B A ε C' := h.mono (fun i v _ e => ⟨e, rfl⟩) (fun l n w e hw f => .inl ⟨w, e, hw, f⟩) k
theorem Rel.app (h : Rel B A ε C) : Rel B A ε (C ++ G) :=
  ⟨h.len, h.dat, fun i v e hv => let ⟨n, h1, h2, h3⟩ := h.cel i v e hv; ⟨n, h1, AV.holds_app h2, h3⟩, h.sep, h.fr.app, h.x.app⟩
theorem set_none {α : Type} {l : List (Option α)} {i j : Nat} {v : Option α} {x : α} (e : (l.set i v)[j]? = some (some x)) : (i = j ∧ v = some x ∧ j < l.length) ∨ (i ≠ j ∧ l[j]? = some (some x)) := by
  rw [List.getElem?_set] at e
  by_cases hij : i = j
  · subst hij
    simp only [if_true] at e
    split at e
    · rename_i hl
      exact .inl ⟨rfl, by simpa using e, hl⟩
    · cases e
  · rw [if_neg hij] at e
    exact .inr ⟨hij, e⟩
theorem Rel.setD (h : Rel B A ε C) (i : Nat) (x : PyData) : Rel B (A.set i (some (.dat x))) (ε.set i (some (.d x))) C := by
  refine ⟨by rw [List.length_set, List.length_set]; exact h.len, fun j y e => ?_, fun j v e hv => ?_, fun j k v w n e1 e2 c1 c2 f1 f2 => ?_, h.fr, ?_⟩
  · rcases set_none e with ⟨rfl, hv, hl⟩ | ⟨hij, e⟩
    · cases hv
      exact List.getElem?_set_self (by rw [h.len]; exact hl)
    · rw [List.getElem?_set_ne hij]
      exact h.dat j y e
  · rcases set_none e with ⟨rfl, hw, hl⟩ | ⟨hij, e⟩
    · cases hw
      cases hv
    · obtain ⟨n, h1, h2, h3⟩ := h.cel j v e hv
      exact ⟨n, by rw [List.getElem?_set_ne hij]; exact h1, h2, h3⟩
  · rcases set_none e1 with ⟨rfl, hv, hl⟩ | ⟨hij, e1⟩
    · cases hv
      cases c1
    · rcases set_none e2 with ⟨rfl, hv, hl⟩ | ⟨hik, e2⟩
      · cases hv
        cases c2
      · rw [List.getElem?_set_ne hij] at f1
        rw [List.getElem?_set_ne hik] at f2
        exact h.sep j k v w n e1 e2 c1 c2 f1 f2
  · refine h.x.mono (fun j v hv e => ?_) (fun l n w e hw f => ?_) fun _ _ _ _ _ _ _ _ _ => rfl
    · rcases set_none e with ⟨rfl, hx, hl⟩ | ⟨hij, e⟩
      · cases hx
        cases hv
      · exact ⟨e, List.getElem?_set_ne hij⟩
    · rcases set_none e with ⟨rfl, hx, hl⟩ | ⟨hij, e⟩
      · cases hx
        cases hw
      · rw [List.getElem?_set_ne hij] at f
        exact .inl ⟨w, e, hw, f⟩
/-- a new list that will be written -/
theorem Rel.newV (h : Rel B A ε C) (i : Nat) {n : Nat} {v : AV} (hv : v.cell = true) (hc : v.holds (C ++ G) n) (hn : C.length ≤ n) : Rel B (A.set i (some v)) (ε.set i (some (.c n))) (C ++ G) := by
  have h' : Rel B A ε (C ++ G) := h.app
  refine ⟨by rw [List.length_set, List.length_set]; exact h.len, fun j y e => ?_, fun j w e hw => ?_, fun j k w z m e1 e2 c1 c2 f1 f2 => ?_, h'.fr, ?_⟩
  · rcases set_none e with ⟨rfl, hx, hl⟩ | ⟨hij, e⟩
    · cases hx
      cases hv
    · rw [List.getElem?_set_ne hij]
      exact h.dat j y e
  · rcases set_none e with ⟨rfl, hx, hl⟩ | ⟨hij, e⟩
    · cases hx
      exact ⟨n, List.getElem?_set_self (by rw [h.len]; exact hl), hc, .inl (by have := h.long; omega)⟩
    · obtain ⟨m, h1, h2, h3⟩ := h'.cel j w e hw
      exact ⟨m, by rw [List.getElem?_set_ne hij]; exact h1, h2, h3⟩
  · have old : ∀ (k : Nat) w, A[k]? = some (some w) → w.cell = true → ε[k]? = some (some (.c n)) → False := fun k w e cw f => by
      obtain ⟨m, h1, h2, h3⟩ := h.cel k w e cw
      rw [f] at h1
      cases h1
      have := AV.holds_lt h2
      omega
    rcases set_none e1 with ⟨rfl, hx, hl⟩ | ⟨hij, e1⟩
    · rcases set_none e2 with ⟨rfl, hx2, hl2⟩ | ⟨hik, e2⟩
      · rfl
      · rw [List.getElem?_set_self (by rw [h.len]; exact hl)] at f1
        cases f1
        rw [List.getElem?_set_ne hik] at f2
        exact (old k z e2 c2 f2).elim
    · rw [List.getElem?_set_ne hij] at f1
      rcases set_none e2 with ⟨rfl, hx2, hl2⟩ | ⟨hik, e2⟩
      · rw [List.getElem?_set_self (by rw [h.len]; exact hl2)] at f2
        cases f2
        exact (old j w e1 c1 f1).elim
      · rw [List.getElem?_set_ne hik] at f2
        exact h.sep j k w z m e1 e2 c1 c2 f1 f2
  · refine h.x.mono (fun j u hu e => ?_) (fun l m w e hw f => ?_) fun i v xss m j e hv f hj => cellAt_app (h.x.blk e hv f hj).2
    · rcases set_none e with ⟨rfl, hx, hl⟩ | ⟨hij, e⟩
      · cases hx
        rw [AV.not_x hv] at hu
        cases hu
      · exact ⟨e, List.getElem?_set_ne hij⟩
    · rcases set_none e with ⟨rfl, hx, hl⟩ | ⟨hij, e⟩
      · rw [List.getElem?_set_self (by rw [h.len]; exact hl)] at f
        cases f
        exact .inr hn
      · rw [List.getElem?_set_ne hij] at f
        exact .inl ⟨w, e, hw, f⟩
/-- a list is written -/
theorem Rel.putV (h : Rel B A ε C) {i n : Nat} {v w : AV} {ys : List PyData} (e : A[i]? = some (some v)) (hv : v.cell = true) (hw : w.cell = true) (hs : ∀ k, v = .pen k → w = .pen k) (f : ε[i]? = some (some (.c n))) (hy : w.holds (C.set n (some ys)) n) :
    Rel B (A.set i (some w)) ε (C.set n (some ys)) := by
  obtain ⟨m, h1, h2, h3⟩ := h.cel i v e hv
  rw [f] at h1
  cases h1
  have hn := AV.holds_lt h2
  have hi : i < A.length := (List.getElem?_eq_some_iff.mp e).1
  refine ⟨by rw [List.length_set]; exact h.len, fun j y e' => ?_, fun j z e' hz => ?_, fun j k z u m e1 e2 c1 c2 f1 f2 => ?_, ⟨by rw [List.length_set]; exact h.long, fun m hm hk ho => ?_, fun m k hk => ?_⟩, ?_⟩
  · rcases set_none e' with ⟨rfl, hx, hl⟩ | ⟨hij, e'⟩
    · cases hx
      cases hw
    · exact h.dat j y e'
  · rcases set_none e' with ⟨rfl, hx, hl⟩ | ⟨hij, e'⟩
    · cases hx
      refine ⟨n, f, hy, ?_⟩
      rcases h3 with h3 | ⟨k, h4, h5⟩
      · exact .inl h3
      · exact .inr ⟨k, hs k h4, h5⟩
    · obtain ⟨m, k1, k2, k3⟩ := h.cel j z e' hz
      refine ⟨m, k1, AV.holds_same k2 ?_, k3⟩
      rw [cellAt_set_ne]
      rintro rfl
      exact hij (h.sep i j v z n e e' hv hz f k1)
  · have g : ∀ (j : Nat) z, (A.set i (some w))[j]? = some (some z) → z.cell = true → ∃ u, A[j]? = some (some u) ∧ u.cell = true := fun j z e' hz => by
      rcases set_none e' with ⟨rfl, hx, hl⟩ | ⟨hij, e'⟩
      · exact ⟨v, e, hv⟩
      · exact ⟨z, e', hz⟩
    obtain ⟨_, g1, g1'⟩ := g j z e1 c1
    obtain ⟨_, g2, g2'⟩ := g k u e2 c2
    exact h.sep j k _ _ m g1 g2 g1' g2' f1 f2
  · rw [List.getElem?_set_ne]
    · exact h.fr.old m hm hk ho
    · rintro rfl
      rcases h3 with h3 | ⟨k, _, h5⟩
      · omega
      · exact hk k h5
  · obtain ⟨k1, q, k2, k3⟩ := h.fr.pens m k hk
    refine ⟨k1, ?_⟩
    by_cases hnm : n = m
    · subst hnm
      rcases h3 with h3 | ⟨k', h4, h5⟩
      · omega
      · have hw' := hs k' h4
        subst hw'
        obtain ⟨q', g1, g2⟩ := hy
        refine ⟨q', ?_, g2⟩
        rw [g1]
        have : cellAt C n = some (q.map .int) := k3
        subst h4
        obtain ⟨q2, g3, g4⟩ := h2
        rw [this] at g4
        have : (q.map PyData.int).length = (q2.map PyData.int).length := by rw [Option.some.inj g4]
        simp only [List.length_map] at this
        omega
    · exact ⟨q, k2, by rw [cellAt_set_ne hnm]; exact k3⟩
  · refine h.x.mono (fun j u hu e' => ?_) (fun l m z e' hz g => ?_) fun j u xss m k e' hu g hk => ?_
    · rcases set_none e' with ⟨rfl, hx, hl⟩ | ⟨hij, e'⟩
      · cases hx
        rw [AV.not_x hw] at hu
        cases hu
      · exact ⟨e', rfl⟩
    · rcases set_none e' with ⟨rfl, hx, hl⟩ | ⟨hij, e'⟩
      · exact .inl ⟨v, e, hv, g⟩
      · exact .inl ⟨z, e', hz, g⟩
    · obtain ⟨m', g1, g2, g3, g4⟩ := h.x.nst j u xss e' hu
      rw [g] at g1
      cases g1
      rw [cellAt_set_ne]
      have := g4 i n v e hv f
      omega
/-- what is forgotten -/
inductive Sub : AE → AE → Prop
  | nil : Sub [] []
  | keep (v : Option AV) {A A' : AE} (h : Sub A A') : Sub (v :: A) (v :: A')
  | drop (v : Option AV) {A A' : AE} (h : Sub A A') : Sub (none :: A) (v :: A')
theorem Sub.refl : ∀ A : AE, Sub A A
  | [] => .nil
  | v :: A => .keep v (Sub.refl A)
theorem Sub.at_ {A A' : AE} (h : Sub A A') : A.length = A'.length ∧ ∀ (i : Nat) v, A[i]? = some (some v) → A'[i]? = some (some v) := by
  induction h with
  | nil => exact ⟨rfl, fun i v e => e⟩
  | keep v h ih =>
    refine ⟨by simp [ih.1], fun i u e => ?_⟩
    cases i with
    | zero => exact e
    | succ i => simpa using ih.2 i u (by simpa using e)
  | drop v h ih =>
    refine ⟨by simp [ih.1], fun i u e => ?_⟩
    cases i with
    | zero => simp at e
    | succ i => simpa using ih.2 i u (by simpa using e)
theorem Rel.sub (h : Rel B A' ε C) (s : Sub A A') : Rel B A ε C :=
  ⟨by rw [h.len, s.at_.1], fun i x e => h.dat i x (s.at_.2 i _ e), fun i v e => h.cel i v (s.at_.2 i _ e), fun i j v w n e1 e2 => h.sep i j v w n (s.at_.2 i _ e1) (s.at_.2 j _ e2), h.fr, h.x.mono (fun i v _ e => ⟨s.at_.2 i _ e, rfl⟩) (fun l n w e hw f => .inl ⟨w, s.at_.2 l _ e, hw, f⟩) fun _ _ _ _ _ _ _ _ _ => rfl⟩
def wipeA (A : AE) (vs : List Nat) : AE := vs.foldr (fun i (e : AE) => e.set i none) A
theorem wipe_get {α : Type} : ∀ (vs : List Nat) (e : List (Option α)) (i : Nat) (x : α), (vs.foldr (fun i (e : List (Option α)) => e.set i none) e)[i]? = some (some x) ↔ i ∉ vs ∧ e[i]? = some (some x)
  | [], e, i, x => by simp
  | j :: vs, e, i, x => by
    have ih := wipe_get vs e i x
    rw [List.foldr_cons]
    by_cases hij : j = i
    · subst hij
      simp only [List.mem_cons, true_or, not_true, false_and, iff_false]
      intro h
      rcases set_none h with ⟨_, hv, _⟩ | ⟨hn, _⟩
      · cases hv
      · exact hn rfl
    · rw [List.getElem?_set_ne hij, ih]
      simp only [List.mem_cons, not_or]
      exact ⟨fun ⟨h1, h2⟩ => ⟨⟨fun z => hij z.symm, h1⟩, h2⟩, fun ⟨⟨_, h1⟩, h2⟩ => ⟨h1, h2⟩⟩
theorem wipe_len {α : Type} : ∀ (vs : List Nat) (e : List (Option α)), (vs.foldr (fun i (e : List (Option α)) => e.set i none) e).length = e.length
  | [], e => rfl
  | j :: vs, e => by rw [List.foldr_cons, List.length_set]; exact wipe_len vs e
theorem Rel.wipe (h : Rel B A ε C) (vs : List Nat) : Rel B (wipeA A vs) (wipeE ε vs) C := by
  refine ⟨?_, fun i x e => ?_, fun i v e hv => ?_, fun i j v w n e1 e2 c1 c2 f1 f2 => ?_, h.fr, ?_⟩
  · unfold wipeA wipeE
    rw [wipe_len, wipe_len]
    exact h.len
  · obtain ⟨h1, h2⟩ := (wipe_get vs A i _).mp e
    exact (wipe_get vs ε i _).mpr ⟨h1, h.dat i x h2⟩
  · obtain ⟨h1, h2⟩ := (wipe_get vs A i _).mp e
    obtain ⟨n, k1, k2, k3⟩ := h.cel i v h2 hv
    exact ⟨n, (wipe_get vs ε i _).mpr ⟨h1, k1⟩, k2, k3⟩
  · exact h.sep i j v w n ((wipe_get vs A i _).mp e1).2 ((wipe_get vs A j _).mp e2).2 c1 c2 ((wipe_get vs ε i _).mp f1).2 ((wipe_get vs ε j _).mp f2).2
  · refine h.x.mono (fun i v hv e => ?_) (fun l n w e hw f => .inl ⟨w, ((wipe_get vs A l _).mp e).2, hw, ((wipe_get vs ε l _).mp f).2⟩) fun _ _ _ _ _ _ _ _ _ => rfl
    obtain ⟨h1, h2⟩ := (wipe_get vs A i _).mp e
    refine ⟨h2, ?_⟩
    have : ∃ r, ε[i]? = some (some r) := by
      cases v with
      | nst xss => obtain ⟨m, g, _⟩ := h.x.nst i _ xss h2 rfl; exact ⟨_, g⟩
      | wn xss => obtain ⟨m, g, _⟩ := h.x.nst i _ xss h2 rfl; exact ⟨_, g⟩
      | ro xs => obtain ⟨_, r, g, _⟩ := h.x.ro i xs h2; exact ⟨_, g⟩
      | rn xss => obtain ⟨_, m, g, _⟩ := h.x.rn i xss h2; exact ⟨_, g⟩
      | _ => cases hv
    obtain ⟨r, g⟩ := this
    rw [g]
    exact (wipe_get vs ε i _).mpr ⟨h1, g⟩
end
/-- cells are held where they were held -/
def CellKeep (A : AE) (ε : Ev) (A' : AE) (ε' : Ev) : Prop := ∀ (i : Nat) (v : AV), A'[i]? = some (some v) → v.cell = true → A[i]? = some (some v) ∧ ε'[i]? = ε[i]?
theorem CellKeep.refl {A : AE} {ε : Ev} : CellKeep A ε A ε := fun i v e _ => ⟨e, rfl⟩
theorem CellKeep.setD {A A' : AE} {ε ε' : Ev} (h : CellKeep A ε A' ε') (i : Nat) (x : PyData) : CellKeep A ε (A'.set i (some (.dat x))) (ε'.set i (some (.d x))) := fun j v e hv => by
  rcases set_none e with ⟨rfl, hx, hl⟩ | ⟨hij, e⟩
  · cases hx
    cases hv
  · rw [List.getElem?_set_ne hij]
    exact h j v e hv
theorem CellKeep.wipe {A : AE} {ε : Ev} {B : FB} {C : CS} (R : Rel B A ε C) (vs : List Nat) : CellKeep A ε (wipeA A vs) (wipeE ε vs) := fun i v e hv => by
  obtain ⟨h1, h2⟩ := (wipe_get vs A i _).mp e
  obtain ⟨n, k1, _⟩ := R.cel i v h2 hv
  exact ⟨h2, by rw [k1]; exact (wipe_get vs ε i _).mpr ⟨h1, k1⟩⟩
theorem CellKeep.trans {A A' A2 : AE} {ε ε' e2 : Ev} (h : CellKeep A ε A' ε') (k : CellKeep A' ε' A2 e2) : CellKeep A ε A2 e2 := fun i v e hv => by
  obtain ⟨h1, h2⟩ := k i v e hv
  obtain ⟨h3, h4⟩ := h i v h1 hv
  exact ⟨h3, h2.trans h4⟩
/-! ### judgements -/
section
variable (B : FB) (A : AE)
/-- a value, perhaps a list that nobody holds -/
def JF (f : DE) (o : Option PyData) : Prop := ∀ ε C, Rel B A ε C → ∀ x, o = some x → ∃ r G, f ε C = some (r, C ++ G) ∧ rdD r (C ++ G) = some x ∧ ∀ n, r = .c n → C.length ≤ n
/-- a value that is data -/
def JD (f : DE) (o : Option PyData) : Prop := ∀ ε C, Rel B A ε C → ∀ x, o = some x → ∃ G, f ε C = some (.d x, C ++ G)
/-- a value that is looked at -/
def JO (f : DE) (o : Option PyData) : Prop := ∀ ε C, Rel B A ε C → ∀ x, o = some x → ∃ r G, f ε C = some (r, C ++ G) ∧ rdD r (C ++ G) = some x
/-- a new list -/
def JM (f : DE) (o : Option (List PyData)) : Prop := ∀ ε C, Rel B A ε C → ∀ xs, o = some xs → ∃ n G, f ε C = some (.c n, C ++ G) ∧ cellAt (C ++ G) n = some xs ∧ C.length ≤ n
def JT (f : DT) (o : Option Bool) : Prop := ∀ ε C, Rel B A ε C → ∀ x, o = some x → ∃ G, f ε C = some (x, C ++ G)
def JI (f : DI) (o : Option (List PyData)) : Prop := ∀ ε C, Rel B A ε C → ∀ xs, o = some xs → ∃ G, f ε C = some (⟨xs, []⟩, C ++ G)
def JG {α : Type} (g : DG) (u : PyData → Option α) (A' : α → AE) : Prop := ∀ ε C, Rel B A ε C → ∀ x a, u x = some a → ∃ ε', (∀ D, g (.d x) ε D = some (ε', D)) ∧ Rel B (A' a) ε' C ∧ CellKeep A ε (A' a) ε'
abbrev Step (σ : Type) := σ ⊕ PyData
def EndB {σ : Type} (mk : σ → AE) (q : Option DO) : Step σ → Prop
  | .inl st => ∃ ε' C', q = some (.nx ε' C') ∧ Rel B (mk st) ε' C'
  | .inr x => ∃ C', q = some (.rt (.d x) C') ∧ Fr B C'
def JB {σ : Type} (s : DS) (mk : σ → AE) (o : Option (Step σ)) : Prop := ∀ ε C, Rel B A ε C → ∀ r, o = some r → EndB B mk (s ε C) r
end
def stepBind {σ τ : Type} (o : Option (Step σ)) (f : σ → Option (Step τ)) : Option (Step τ) := o.bind fun r => match r with
  | .inl st => f st
  | .inr x => some (.inr x)
@[simp] theorem stepBind_inl {σ τ : Type} {st : σ} {f : σ → Option (Step τ)} : stepBind (some (.inl st)) f = f st := rfl
@[simp] theorem stepBind_inr {σ τ : Type} {x : PyData} {f : σ → Option (Step τ)} : stepBind (some (.inr x)) f = some (.inr x) := rfl
def pFor {σ : Type} (f : PyData → σ → Option (Step σ)) : List PyData → σ → Option (Step σ)
  | [], st => some (.inl st)
  | x :: xs, st => stepBind (f x st) (pFor f xs)
/-- a def: what its block tells, None where it ends without -/
def pRun {σ : Type} (o : Option (Step σ)) : Option PyData := o.map fun r => match r with
  | .inl _ => .none
  | .inr x => x
def pU1 (x : PyData) : Option PyData := some x
def pU2 : PyData → Option (PyData × PyData)
  | .tuple [a, b] => some (a, b)
  | _ => none
def pU3 : PyData → Option (PyData × PyData × PyData)
  | .tuple [a, b, c] => some (a, b, c)
  | _ => none
def pU5 : PyData → Option (PyData × PyData × PyData × PyData × PyData)
  | .tuple [a, b, c, d, e] => some (a, b, c, d, e)
  | _ => none
def pMap (f : PyData → Option PyData) (xs : List PyData) : Option (List PyData) := if xs.length ≤ 10000 then xs.mapM f else none
/-- with a test ahead: none where it is left out -/
def pSel (f : PyData → Option (Option PyData)) : List PyData → Option (List PyData)
  | [] => some []
  | x :: xs => (f x).bind fun o => (pSel f xs).map fun ys => o.toList ++ ys
def pFil (f : PyData → Option (Option PyData)) (xs : List PyData) : Option (List PyData) := if xs.length ≤ 10000 then pSel f xs else none
def asB : PyData → Option Bool
  | .bool b => some b
  | _ => none
@[simp] theorem asB_bool {b : Bool} : asB (.bool b) = some b := rfl
def pIf {α : Type} (t : Option Bool) (a b : Option α) : Option α := t.bind fun c => if c = true then a else b
def pAnd (a b : Option Bool) : Option Bool := pIf a b (some false)
def pOr (a b : Option Bool) : Option Bool := pIf a (some true) b
def pNot (a : Option Bool) : Option Bool := a.map (!·)
end Dn
set_option Elab.async false
set_option linter.all false
set_option maxRecDepth 100000
namespace Dn
open PySem PySem.Spec PyProof.Rows L2
/-! ### the operations on data alone -/
def pI (f : Int → Int → Option PyData) (x y : PyData) : Option PyData := match x, y with
  | .int i, .int j => f i j
  | _, _ => none
def pAdd (x y : PyData) : Option PyData := match x, y with
  | .int i, .int j => some (.int (i + j))
  | .tuple xs, .tuple ys => if xs.length + ys.length ≤ 10000 then some (.tuple (xs ++ ys)) else none
  | .list xs, .list ys => if xs.length + ys.length ≤ 10000 then some (.list (xs ++ ys)) else none
  | _, _ => none
def pSub : PyData → PyData → Option PyData := pI fun i j => some (.int (i - j))
def pPow : PyData → PyData → Option PyData := pI fun i j => if 0 ≤ j ∧ j ≤ 1000 ∧ i.natAbs < 2 ^ 64 then some (.int (i ^ j.toNat)) else none
def pLe : PyData → PyData → Option PyData := pI fun i j => some (.bool (decide (i ≤ j)))
def pEq (x y : PyData) : Option PyData := if fits x y = true then some (.bool (PyData.eqv x y)) else none
def pNe (x y : PyData) : Option PyData := if fits x y = true then some (.bool !(PyData.eqv x y)) else none
def isU (x y : PyData) : Option Bool := match x, y with
  | .none, .bool _ => some false
  | .int _, .bool _ => some false
  | x, y => isV x y
def pIs (x y : PyData) : Option PyData := (isV x y).map .bool
def pIsnt (x y : PyData) : Option PyData := (isU x y).map fun b => .bool !b
def itemsOf : PyData → Option (List PyData)
  | .tuple xs => some xs
  | .list xs => some xs
  | _ => none
def pIx (x y : PyData) : Option PyData := match y with
  | .int i => (itemsOf x).bind fun xs => L2.atI xs i
  | _ => none
def pInB (neg : Bool) (x y : PyData) : Option PyData := (itemsOf y).bind fun ys => if flatN x = true ∧ ys.all flatN = true then some (.bool (if neg then !(ys.any fun z => PyData.eqv z x) else ys.any fun z => PyData.eqv z x)) else none
abbrev pIn := pInB false
abbrev pNotIn := pInB true
def pCut (x : PyData) (lo hi : Option Int) : Option PyData := match x with
  | .tuple xs => some (.tuple (cutD xs lo hi))
  | .list xs => some (.list (cutD xs lo hi))
  | _ => none
def asI : PyData → Option Int
  | .int i => some i
  | _ => none
def pLook (f : PyData → Option PyData) (x : PyData) : Option PyData := (f x).bind fun e => if flat e = true then some e else none
def pTuple : PyData → Option PyData
  | .tuple xs => some (.tuple xs)
  | .list xs => some (.tuple xs)
  | _ => none
noncomputable def pSorted : PyData → Option (List PyData)
  | .list xs => if srtOk xs then some (srt xs) else none
  | _ => none
def pMax2 : PyData → PyData → Option PyData := pI fun i j => some (.int (if j > i then j else i))
def pMin2 : PyData → PyData → Option PyData := pI fun i j => some (.int (if j < i then j else i))
def pRange1 (x : PyData) : Option (List PyData) := match x with
  | .int n => if -1000000000000000 ≤ n ∧ n ≤ 1000000000000000 then some (rng 0 n.toNat) else none
  | _ => none
def pTupRg : PyData → Option PyData
  | .int n => if 0 ≤ n ∧ n ≤ 10000 then some (.tuple (rng 0 n.toNat)) else none
  | _ => none
def pZip (x y : PyData) : Option (List PyData) := (itemsOf x).bind fun xs => (itemsOf y).map fun ys => (xs.zip ys).map fun p => .tuple [p.1, p.2]
def pEnum (x : PyData) : Option (List PyData) := (itemsOf x).map pairs
section
variable {i j : Int} {x y : PyData} {xs ys : List PyData}
@[simp] theorem pAdd_int : pAdd (.int i) (.int j) = some (.int (i + j)) := rfl
@[simp] theorem pSub_int : pSub (.int i) (.int j) = some (.int (i - j)) := rfl
@[simp] theorem pPow_int : pPow (.int i) (.int j) = if 0 ≤ j ∧ j ≤ 1000 ∧ i.natAbs < 2 ^ 64 then some (.int (i ^ j.toNat)) else none := rfl
@[simp] theorem pLe_int : pLe (.int i) (.int j) = some (.bool (decide (i ≤ j))) := rfl
@[simp] theorem pEq_int : pEq (.int i) (.int j) = some (.bool (decide (i = j))) := by simp [pEq]
@[simp] theorem pNe_int : pNe (.int i) (.int j) = some (.bool !(decide (i = j))) := by simp [pNe]
@[simp] theorem pIs_none : pIs x .none = some (.bool (noneD x)) := by cases x <;> rfl
@[simp] theorem pIsnt_none : pIsnt x .none = some (.bool !(noneD x)) := by cases x <;> rfl
@[simp] theorem pIs_bool {a b : Bool} : pIs (.bool a) (.bool b) = some (.bool (decide (a = b))) := rfl
@[simp] theorem pIsnt_bool {a b : Bool} : pIsnt (.bool a) (.bool b) = some (.bool !(decide (a = b))) := rfl
@[simp] theorem itemsOf_t : itemsOf (.tuple xs) = some xs := rfl
@[simp] theorem itemsOf_l : itemsOf (.list xs) = some xs := rfl
@[simp] theorem pIx_t : pIx (.tuple xs) (.int i) = L2.atI xs i := rfl
@[simp] theorem pIx_l : pIx (.list xs) (.int i) = L2.atI xs i := rfl
@[simp] theorem pCut_t {lo hi : Option Int} : pCut (.tuple xs) lo hi = some (.tuple (cutD xs lo hi)) := rfl
@[simp] theorem pCut_l {lo hi : Option Int} : pCut (.list xs) lo hi = some (.list (cutD xs lo hi)) := rfl
@[simp] theorem asI_int : asI (.int i) = some i := rfl
@[simp] theorem pTuple_t : pTuple (.tuple xs) = some (.tuple xs) := rfl
@[simp] theorem pTuple_l : pTuple (.list xs) = some (.tuple xs) := rfl
@[simp] theorem pMax2_int : pMax2 (.int i) (.int j) = some (.int (if j > i then j else i)) := rfl
@[simp] theorem pMin2_int : pMin2 (.int i) (.int j) = some (.int (if j < i then j else i)) := rfl
@[simp] theorem pU1_eq : pU1 x = some x := rfl
@[simp] theorem pU2_eq : pU2 (.tuple [x, y]) = some (x, y) := rfl
@[simp] theorem pU3_eq {a b c : PyData} : pU3 (.tuple [a, b, c]) = some (a, b, c) := rfl
@[simp] theorem pU5_eq {a b c d e : PyData} : pU5 (.tuple [a, b, c, d, e]) = some (a, b, c, d, e) := rfl
@[simp] theorem pLen_t : pLook fLen (.tuple xs) = some (.int xs.length) := rfl
@[simp] theorem pLen_l : pLook fLen (.list xs) = some (.int xs.length) := rfl
@[simp] theorem pZip_t : pZip (.tuple xs) (.tuple ys) = some ((xs.zip ys).map fun p => .tuple [p.1, p.2]) := rfl
@[simp] theorem pZip_lt : pZip (.list xs) (.tuple ys) = some ((xs.zip ys).map fun p => .tuple [p.1, p.2]) := rfl
@[simp] theorem pZip_tl : pZip (.tuple xs) (.list ys) = some ((xs.zip ys).map fun p => .tuple [p.1, p.2]) := rfl
@[simp] theorem pZip_l : pZip (.list xs) (.list ys) = some ((xs.zip ys).map fun p => .tuple [p.1, p.2]) := rfl
@[simp] theorem pEnum_t : pEnum (.tuple xs) = some (pairs xs) := rfl
@[simp] theorem pEnum_l : pEnum (.list xs) = some (pairs xs) := rfl
end
/-! ### they are what the functions do -/
def OpD (g : SV → SV → CS → Option (SV × CS)) (p : PyData → PyData → Option PyData) : Prop := ∀ a b C x y z, rdD a C = some x → rdD b C = some y → p x y = some z → g a b C = some (.d z, C)
def OpB (g : SV → SV → CS → Option (SV × CS)) (p : PyData → PyData → Option PyData) : Prop := ∀ a b C x y z, rdD a C = some x → rdD b C = some y → p x y = some z → ∃ r G, g a b C = some (r, C ++ G) ∧ rdD r (C ++ G) = some z ∧ ∀ n, r = .c n → C.length ≤ n
theorem OpD.b {g : SV → SV → CS → Option (SV × CS)} {p : PyData → PyData → Option PyData} (h : OpD g p) : OpB g p := fun a b C x y z ha hb hp => ⟨.d z, [], by rw [List.append_nil]; exact h a b C x y z ha hb hp, rfl, fun n e => nomatch e⟩
theorem rd_cases {a : SV} {C : CS} {x : PyData} (h : rdD a C = some x) : a = .d x ∨ ∃ n xs, a = .c n ∧ cellAt C n = some xs ∧ x = .list xs := by
  cases a with
  | d y => cases h; exact .inl rfl
  | c n =>
    obtain ⟨xs, h1, rfl⟩ := Option.map_eq_some_iff.mp h
    exact .inr ⟨n, xs, rfl, h1, rfl⟩
  | g i j => cases h
  | b n k => cases h
theorem rd_d {a : SV} {C : CS} {x : PyData} (h : rdD a C = some x) (hx : ∀ xs, x ≠ .list xs) : a = .d x := by
  rcases rd_cases h with h | ⟨n, xs, _, _, rfl⟩
  · exact h
  · exact absurd rfl (hx xs)
theorem rd_rdS {a : SV} {C : CS} {x : PyData} {xs : List PyData} (h : rdD a C = some x) (hx : itemsOf x = some xs) : rdS a C = some xs := by
  rcases rd_cases h with rfl | ⟨n, ys, rfl, h1, rfl⟩
  · cases x <;> first | (cases hx; rfl) | cases hx
  · cases hx
    exact h1
theorem rd_rdL {a : SV} {C : CS} {xs : List PyData} (h : rdD a C = some (.list xs)) : rdL a C = some xs := by
  rcases rd_cases h with rfl | ⟨n, ys, rfl, h1, h2⟩
  · rfl
  · cases h2
    exact h1
theorem opd_I {f : Int → Int → Option PyData} : OpD (gI f) (pI f) := fun a b C x y z ha hb hp => by
  unfold pI at hp
  split at hp
  · rw [rd_d ha (fun xs e => nomatch e), rd_d hb (fun xs e => nomatch e)]
    unfold gI
    simp only [hp, Option.map_some]
  · cases hp
theorem opb_add : OpB gAddV pAdd := fun a b C x y z ha hb hp => by
  unfold pAdd at hp
  split at hp
  · cases hp
    rw [rd_d ha (fun xs e => nomatch e), rd_d hb (fun xs e => nomatch e)]
    rename_i i j
    exact ⟨.d (.int (i + j)), [], by rw [List.append_nil]; rfl, rfl, fun n e => nomatch e⟩
  · split at hp
    · rename_i xs ys hl
      cases hp
      rw [rd_d ha (fun xs e => nomatch e), rd_d hb (fun xs e => nomatch e)]
      exact ⟨.d (.tuple (xs ++ ys)), [], by rw [List.append_nil]; simp only [gAddV, hl, if_true], rfl, fun n e => nomatch e⟩
    · cases hp
  · split at hp
    · rename_i xs ys hl
      cases hp
      have h1 := rd_rdL ha
      have h2 := rd_rdL hb
      refine ⟨.c C.length, [some (xs ++ ys)], ?_, by show (cellAt _ _).map _ = _; rw [cellAt_end]; rfl, fun n e => by cases e; exact Nat.le_refl _⟩
      have : gAddV a b C = (rdL a C).bind fun xs => (rdL b C).bind fun ys => if xs.length + ys.length ≤ 10000 then some (.c C.length, C ++ [some (xs ++ ys)]) else none := by
        rcases rd_cases ha with rfl | ⟨n, _, rfl, _, _⟩
        · rfl
        · rcases rd_cases hb with rfl | ⟨m, _, rfl, _, _⟩ <;> rfl
      rw [this, h1, h2]
      simp only [Option.bind_some, hl, if_true]
    · cases hp
  · cases hp
theorem opd_eq : OpD gEqP pEq := fun a b C x y z ha hb hp => by
  unfold pEq at hp
  split at hp
  · rename_i hf
    cases hp
    simp only [gEqP, ha, hb, Option.bind_some, hf, if_true]
  · cases hp
theorem opd_ne : OpD gNeP pNe := fun a b C x y z ha hb hp => by
  unfold pNe at hp
  split at hp
  · rename_i hf
    cases hp
    simp only [gNeP, ha, hb, Option.bind_some, hf, if_true]
  · cases hp
theorem opd_isnt : OpD gIsntU pIsnt := fun a b C x y z ha hb hp => by
  obtain ⟨k, h1, rfl⟩ := Option.map_eq_some_iff.mp hp
  rcases rd_cases ha with rfl | ⟨n, xs, rfl, h2, rfl⟩
  · rcases rd_cases hb with rfl | ⟨m, ys, rfl, h3, rfl⟩
    · cases x <;> cases y <;> first | (cases h1; rfl) | cases h1
    · cases x <;> cases h1
  · rcases rd_cases hb with rfl | ⟨m, ys, rfl, h3, rfl⟩
    · cases y <;> first | (cases h1; rfl) | cases h1
    · cases h1
theorem opd_ix : OpD gIx pIx := fun a b C x y z ha hb hp => by
  unfold pIx at hp
  split at hp
  · obtain ⟨xs, h1, h2⟩ := Option.bind_eq_some_iff.mp hp
    rw [rd_d hb (fun xs e => nomatch e)]
    simp only [gIx, rd_rdS ha h1, Option.bind_some, h2, Option.map_some]
  · cases hp
theorem opd_in {neg : Bool} : OpD (gInB neg) (pInB neg) := fun a b C x y z ha hb hp => by
  obtain ⟨ys, h1, h2⟩ := Option.bind_eq_some_iff.mp hp
  split at h2
  · rename_i hf
    cases h2
    have : a = .d x := by
      refine rd_d ha fun xs e => ?_
      subst e
      cases hf.1
    rw [this]
    simp only [gInB, rd_rdS hb h1, Option.bind_some, hf, and_self, if_true]
  · cases h2
end Dn
set_option Elab.async false
set_option linter.all false
set_option maxRecDepth 100000
namespace Dn
open PySem PySem.Spec PyProof.Rows L2
section
variable {B : FB} {A : AE} {f fa fb fc : DE} {o oa ob oc : Option PyData} {ol : Option (List PyData)} {i : Nat} {x : PyData}
theorem rd_app {r : SV} {C G : CS} {x : PyData} (h : rdD r C = some x) : rdD r (C ++ G) = some x := by
  rcases rd_cases h with rfl | ⟨n, xs, rfl, h1, rfl⟩
  · rfl
  · show (cellAt (C ++ G) n).map _ = _
    rw [cellAt_app (cellAt_lt h1), h1]
    rfl
theorem JD.toF (h : JD B A f o) : JF B A f o := fun ε C R x e => let ⟨G, h1⟩ := h ε C R x e; ⟨.d x, G, h1, rfl, fun n e => nomatch e⟩
theorem JF.toO (h : JF B A f o) : JO B A f o := fun ε C R x e => let ⟨r, G, h1, h2, _⟩ := h ε C R x e; ⟨r, G, h1, h2⟩
theorem JD.toO (h : JD B A f o) : JO B A f o := h.toF.toO
theorem JM.toF (h : JM B A f ol) : JF B A f (ol.map .list) := fun ε C R x e => by
  obtain ⟨xs, e1, rfl⟩ := Option.map_eq_some_iff.mp e
  obtain ⟨n, G, h1, h2, h3⟩ := h ε C R xs e1
  exact ⟨.c n, G, h1, by show (cellAt _ n).map _ = _; rw [h2]; rfl, fun m e => by cases e; exact h3⟩
theorem jd_var (h : A[i]? = some (some (.dat x))) : JD B A (dVar i) (some x) := fun ε C R y e => by
  cases e
  exact ⟨[], by rw [List.append_nil]; unfold dVar; rw [R.dat i x h]⟩
theorem jd_c : JD B A (dC x) (some x) := fun ε C R y e => by
  cases e
  exact ⟨[], by rw [List.append_nil]; rfl⟩
theorem two_o (ha : JO B A fa oa) (hb : JO B A fb ob) {ε : Ev} {C : CS} (R : Rel B A ε C) {x y : PyData} (e1 : oa = some x) (e2 : ob = some y) : ∃ r1 r2 G1 G2, fa ε C = some (r1, C ++ G1) ∧ fb ε (C ++ G1) = some (r2, C ++ G1 ++ G2) ∧ rdD r1 (C ++ G1 ++ G2) = some x ∧ rdD r2 (C ++ G1 ++ G2) = some y := by
  obtain ⟨r1, G1, h1, h2⟩ := ha ε C R x e1
  obtain ⟨r2, G2, h3, h4⟩ := hb ε (C ++ G1) R.app y e2
  exact ⟨r1, r2, G1, G2, h1, h3, rd_app h2, h4⟩
theorem jd_op {g : SV → SV → CS → Option (SV × CS)} {p : PyData → PyData → Option PyData} (h : OpD g p) (ha : JO B A fa oa) (hb : JO B A fb ob) : JD B A (dOp g fa fb) (oa.bind fun x => ob.bind fun y => p x y) := fun ε C R z e => by
  obtain ⟨x, e1, e⟩ := Option.bind_eq_some_iff.mp e
  obtain ⟨y, e2, e⟩ := Option.bind_eq_some_iff.mp e
  obtain ⟨r1, r2, G1, G2, h1, h2, h3, h4⟩ := two_o ha hb R e1 e2
  refine ⟨G1 ++ G2, ?_⟩
  rw [← List.append_assoc]
  unfold dOp
  simp only [h1, h2, Option.bind_some, h r1 r2 _ x y z h3 h4 e]
theorem jf_op {g : SV → SV → CS → Option (SV × CS)} {p : PyData → PyData → Option PyData} (h : OpB g p) (ha : JO B A fa oa) (hb : JO B A fb ob) : JF B A (dOp g fa fb) (oa.bind fun x => ob.bind fun y => p x y) := fun ε C R z e => by
  obtain ⟨x, e1, e⟩ := Option.bind_eq_some_iff.mp e
  obtain ⟨y, e2, e⟩ := Option.bind_eq_some_iff.mp e
  obtain ⟨r1, r2, G1, G2, h1, h2, h3, h4⟩ := two_o ha hb R e1 e2
  obtain ⟨r, G, k1, k2, k3⟩ := h r1 r2 _ x y z h3 h4 e
  refine ⟨r, G1 ++ G2 ++ G, ?_, by rw [← List.append_assoc, ← List.append_assoc]; exact k2, fun n en => ?_⟩
  · rw [← List.append_assoc, ← List.append_assoc]
    unfold dOp
    simp only [h1, h2, Option.bind_some, k1]
  · have := k3 n en
    simp only [List.length_append] at this
    omega
theorem take_setF {C G : CS} {n : Nat} {v : Option (List PyData)} (h : C.length ≤ n) : ((C ++ G).set n v).take C.length = C := by
  rw [List.take_set, List.set_eq_of_length_le (by rw [List.length_take]; omega)]
  simp
theorem frz_fresh {r : SV} {C G : CS} {x : PyData} (h : rdD r (C ++ G) = some x) (hn : ∀ n, r = .c n → C.length ≤ n) : ∃ C2, frz r (C ++ G) = some (x, C2) ∧ C2.take C.length = C ∧ (∀ m, m < C.length → C2[m]? = C[m]?) := by
  rcases rd_cases h with rfl | ⟨n, xs, rfl, h1, rfl⟩
  · exact ⟨C ++ G, rfl, by simp, fun m hm => List.getElem?_append_left hm⟩
  · refine ⟨(C ++ G).set n none, by show (cellAt _ n).map _ = _; rw [h1]; rfl, take_setF (hn n rfl), fun m hm => ?_⟩
    rw [List.getElem?_set_ne (by have := hn n rfl; omega), List.getElem?_append_left hm]
theorem fz_eq (h : JF B A f o) {ε : Ev} {C : CS} (R : Rel B A ε C) (e : o = some x) : dFz f ε C = some (.d x, C) := by
  obtain ⟨r, G, h1, h2, h3⟩ := h ε C R x e
  obtain ⟨C2, k1, k2, _⟩ := frz_fresh h2 h3
  unfold dFz
  simp only [h1, Option.bind_some, k1, Option.map_some, k2]
theorem jd_fz (h : JF B A f o) : JD B A (dFz f) o := fun ε C R x e => ⟨[], by rw [List.append_nil]; exact fz_eq h R e⟩
/-! tests -/
variable {t u : DT} {ot ou : Option Bool}
theorem jt_test (h : JD B A f o) : JT B A (dTest f) (o.bind asB) := fun ε C R b e => by
  obtain ⟨x, e1, e⟩ := Option.bind_eq_some_iff.mp e
  obtain ⟨G, h1⟩ := h ε C R x e1
  unfold asB at e
  split at e
  · cases e
    exact ⟨G, by unfold dTest; simp only [h1, Option.bind_some]⟩
  · cases e
theorem jt_if {v : DT} {ov : Option Bool} (h : JT B A t ot) (ha : JT B A u ou) (hb : JT B A v ov) {ε : Ev} {C : CS} (R : Rel B A ε C) {b : Bool} (e : pIf ot ou ov = some b) : ∃ c G, t ε C = some (c, C ++ G) ∧ (if c = true then ∃ G2, u ε (C ++ G) = some (b, C ++ G ++ G2) else ∃ G2, v ε (C ++ G) = some (b, C ++ G ++ G2)) := by
  obtain ⟨c, e1, e⟩ := Option.bind_eq_some_iff.mp e
  obtain ⟨G, h1⟩ := h ε C R c e1
  refine ⟨c, G, h1, ?_⟩
  cases c with
  | true => exact ha ε (C ++ G) R.app b e
  | false => exact hb ε (C ++ G) R.app b e
theorem jt_k {b : Bool} : JT B A (fun _ C => some (b, C)) (some b) := fun ε C R c e => by
  cases e
  exact ⟨[], by rw [List.append_nil]⟩
theorem jt_and (h : JT B A t ot) (k : JT B A u ou) : JT B A (dAnd t u) (pAnd ot ou) := fun ε C R b e => by
  obtain ⟨c, G, h1, h2⟩ := jt_if h k jt_k R e
  cases c with
  | true =>
    obtain ⟨G2, h2⟩ := h2
    exact ⟨G ++ G2, by rw [← List.append_assoc]; unfold dAnd; simp only [h1, Option.bind_some, if_true, h2]⟩
  | false =>
    obtain ⟨G2, h2⟩ := h2
    have h2 : (some (false, C ++ G) : Option (Bool × CS)) = some (b, C ++ G ++ G2) := h2
    have h5 : false = b := congrArg (fun o => (o.map Prod.fst).getD false) h2
    subst h5
    exact ⟨G, by unfold dAnd; simp [h1]⟩
theorem jt_or (h : JT B A t ot) (k : JT B A u ou) : JT B A (dOr t u) (pOr ot ou) := fun ε C R b e => by
  obtain ⟨c, G, h1, h2⟩ := jt_if h jt_k k R e
  cases c with
  | false =>
    obtain ⟨G2, h2⟩ := h2
    exact ⟨G ++ G2, by rw [← List.append_assoc]; unfold dOr; simp only [h1, Option.bind_some]; simp [h2]⟩
  | true =>
    obtain ⟨G2, h2⟩ := h2
    have h2 : (some (true, C ++ G) : Option (Bool × CS)) = some (b, C ++ G ++ G2) := h2
    have h5 : true = b := congrArg (fun o => (o.map Prod.fst).getD false) h2
    subst h5
    exact ⟨G, by unfold dOr; simp [h1]⟩
theorem jt_not (h : JT B A t ot) : JT B A (dNot t) (pNot ot) := fun ε C R b e => by
  obtain ⟨c, e1, rfl⟩ := Option.map_eq_some_iff.mp e
  obtain ⟨G, h1⟩ := h ε C R c e1
  exact ⟨G, by unfold dNot; simp [h1]⟩
theorem jt_yes : JT B A dYes (some true) := jt_k
theorem jd_andV (ha : JD B A fa oa) (hb : JD B A fb ob) : JD B A (dAndV fa fb) (pIf (oa.bind asB) ob (some (.bool false))) := fun ε C R x e => by
  obtain ⟨c, e1, e⟩ := Option.bind_eq_some_iff.mp e
  obtain ⟨G, h1⟩ := jt_test ha ε C R c e1
  unfold dAndV
  simp only [h1, Option.bind_some]
  cases c with
  | true =>
    obtain ⟨G2, h2⟩ := hb ε (C ++ G) R.app x e
    exact ⟨G ++ G2, by rw [← List.append_assoc]; simp only [if_true, h2]⟩
  | false =>
    cases e
    exact ⟨G, by simp⟩
end
section
variable {B : FB} {A : AE} {f fa fb fc fz : DE} {o oa ob oc oz : Option PyData} {ol : Option (List PyData)} {i : Nat} {x : PyData}
/-! arguments -/
def JAs (B : FB) (A : AE) {β : Type} (f : DA) (n : Nat) (t : (List PyData → Option β) → Option β) : Prop := ∀ ε C, Rel B A ε C → ∀ κ b, t κ = some b → ∃ xs G, f ε C = some (xs.map SV.d, C ++ G) ∧ xs.length = n ∧ κ xs = some b
/-- .. and how many stands open -/
def JAo (B : FB) (A : AE) {β : Type} (f : DA) (t : (List PyData → Option β) → Option β) : Prop := ∀ ε C, Rel B A ε C → ∀ κ b, t κ = some b → ∃ xs G, f ε C = some (xs.map SV.d, C ++ G) ∧ κ xs = some b
variable {β : Type} {fr : DA} {n : Nat} {tr : (List PyData → Option β) → Option β}
theorem JAs.toO (h : JAs B A fr n tr) : JAo B A fr tr := fun ε C R κ b e => let ⟨xs, G, h1, _, h3⟩ := h ε C R κ b e; ⟨xs, G, h1, h3⟩
theorem ja_nil : JAs B A (β := β) dNil 0 (fun κ => κ []) := fun ε C R κ b e => ⟨[], [], by rw [List.append_nil]; rfl, rfl, e⟩
theorem ja_cons (h : JD B A f o) (k : JAs B A fr n tr) : JAs B A (dCons f fr) (n + 1) (fun κ => o.bind fun x => tr fun xs => κ (x :: xs)) := fun ε C R κ b e => by
  obtain ⟨x, e1, e⟩ := Option.bind_eq_some_iff.mp e
  obtain ⟨G1, h1⟩ := h ε C R x e1
  obtain ⟨xs, G2, h2, h3, h4⟩ := k ε (C ++ G1) R.app _ b e
  exact ⟨x :: xs, G1 ++ G2, by rw [← List.append_assoc]; unfold dCons; simp only [h1, h2, Option.bind_some, List.map_cons], by simp [h3], h4⟩
theorem jo_cons (h : JD B A f o) (k : JAo B A fr tr) : JAo B A (dCons f fr) (fun κ => o.bind fun x => tr fun xs => κ (x :: xs)) := fun ε C R κ b e => by
  obtain ⟨x, e1, e⟩ := Option.bind_eq_some_iff.mp e
  obtain ⟨G1, h1⟩ := h ε C R x e1
  obtain ⟨xs, G2, h2, h4⟩ := k ε (C ++ G1) R.app _ b e
  exact ⟨x :: xs, G1 ++ G2, by rw [← List.append_assoc]; unfold dCons; simp only [h1, h2, Option.bind_some, List.map_cons], h4⟩
theorem jo_star (h : JO B A f o) (k : JAo B A fr tr) : JAo B A (dStar f fr) (fun κ => (o.bind itemsOf).bind fun ys => tr fun xs => κ (ys ++ xs)) := fun ε C R κ b e => by
  obtain ⟨ys, e0, e⟩ := Option.bind_eq_some_iff.mp e
  obtain ⟨x, e1, e2⟩ := Option.bind_eq_some_iff.mp e0
  obtain ⟨r, G1, h1, h5⟩ := h ε C R x e1
  obtain ⟨xs, G2, h2, h4⟩ := k ε (C ++ G1) R.app _ b e
  exact ⟨ys ++ xs, G1 ++ G2, by rw [← List.append_assoc]; unfold dStar; simp only [h1, h2, rd_rdS h5 e2, Option.bind_some, Option.map_some, List.map_append], h4⟩
theorem frzs_of {C : CS} : ∀ xs : List PyData, frzs (xs.map SV.d) C = some (xs, C)
  | [] => rfl
  | x :: xs => by rw [List.map_cons, frzs_cons, frz_d, Option.bind_some, frzs_of xs]; rfl
theorem jd_tup {tr : (List PyData → Option PyData) → Option PyData} (h : JAs B A fr n tr) (hn : n ≤ 10000) : JD B A (dCall gTup fr) (tr fun xs => some (.tuple xs)) := fun ε C R x e => by
  obtain ⟨xs, G, h1, h2, h3⟩ := h ε C R _ x e
  cases h3
  exact ⟨G, by unfold dCall; simp only [h1, Option.bind_some, gTup, frzs_of]; rw [if_pos (by omega)]⟩
theorem jd_tupS {tr : (List PyData → Option PyData) → Option PyData} (h : JAo B A fr tr) : JD B A (dCall gTup fr) (tr fun xs => if xs.length ≤ 10000 then some (.tuple xs) else none) := fun ε C R x e => by
  obtain ⟨xs, G, h1, h3⟩ := h ε C R _ x e
  split at h3
  · rename_i hl
    cases h3
    exact ⟨G, by unfold dCall; simp only [h1, Option.bind_some, gTup, frzs_of]; rw [if_pos hl]⟩
  · cases h3
theorem jm_lst {tr : (List PyData → Option (List PyData)) → Option (List PyData)} (h : JAs B A fr n tr) (hn : n ≤ 10000) : JM B A (dCall gLst fr) (tr fun xs => some xs) := fun ε C R ys e => by
  obtain ⟨xs, G, h1, h2, h3⟩ := h ε C R _ ys e
  cases h3
  refine ⟨(C ++ G).length, G ++ [some ys], ?_, by rw [← List.append_assoc]; exact cellAt_end, by simp⟩
  unfold dCall
  simp only [h1, Option.bind_some, gLst, frzs_of]
  rw [if_pos (by omega), List.append_assoc]
/-- a def is called -/
theorem jd_call {tr : (List PyData → Option PyData) → Option PyData} {m : DF} {P : List PyData → Option PyData} (h : JAs B A fr n tr) (hm : ∀ xs C r, xs.length = n → P xs = some r → m (xs.map SV.d) C = some (.d r, C)) : JD B A (dCall m fr) (tr P) := fun ε C R x e => by
  obtain ⟨xs, G, h1, h2, h3⟩ := h ε C R _ x e
  exact ⟨G, by unfold dCall; simp only [h1, Option.bind_some, hm xs (C ++ G) x h2 h3]⟩
theorem pm_d (π : List Nat) (xs : List PyData) : pm π (.d .none) (xs.map SV.d) = (pm π .none xs).map SV.d := by
  unfold pm
  rw [List.map_map]
  refine List.map_congr_left fun i _ => ?_
  rw [Function.comp, List.getD_eq_getElem?_getD, List.getD_eq_getElem?_getD, List.getElem?_map]
  cases xs[i]? <;> rfl
theorem jd_callK {tr : (List PyData → Option PyData) → Option PyData} {m : DF} {P : List PyData → Option PyData} {π : List Nat} (h : JAs B A fr n tr) (hl : π.length = n) (hm : ∀ xs C r, xs.length = n → P xs = some r → m ((pm π .none xs).map SV.d) C = some (.d r, C)) : JD B A (dCallK m π fr) (tr P) := fun ε C R x e => by
  obtain ⟨xs, G, h1, h2, h3⟩ := h ε C R _ x e
  refine ⟨G, ?_⟩
  unfold dCallK
  simp only [h1, Option.bind_some]
  rw [if_pos (by rw [List.length_map, h2, hl]), pm_d]
  exact hm xs (C ++ G) x h2 h3
def F1 (g : List SV → CS → Option (SV × CS)) (p : PyData → Option PyData) : Prop := ∀ a C x z, rdD a C = some x → p x = some z → g [a] C = some (.d z, C)
theorem jd_call1 {g : List SV → CS → Option (SV × CS)} {p : PyData → Option PyData} (h : F1 g p) (hf : JO B A f o) : JD B A (dCall g (dCons f dNil)) (o.bind p) := fun ε C R z e => by
  obtain ⟨x, e1, e⟩ := Option.bind_eq_some_iff.mp e
  obtain ⟨r, G, h1, h2⟩ := hf ε C R x e1
  exact ⟨G, by unfold dCall dCons; simp only [h1, Option.bind_some, dNil, h r (C ++ G) x z h2 e]⟩
theorem f1_look {F : PyData → Option PyData} : F1 (gLook F) (pLook F) := fun a C x z ha hp => by
  obtain ⟨y, h1, h2⟩ := Option.bind_eq_some_iff.mp hp
  split at h2
  · rename_i hf
    cases h2
    simp only [gLook, ha, Option.bind_some, h1, hf, if_true]
  · cases h2
theorem f1_tuple : F1 gTuple pTuple := fun a C x z ha hp => by
  unfold pTuple at hp
  split at hp
  · cases hp
    rw [rd_d ha (fun xs e => nomatch e)]
    rfl
  · cases hp
    have := rd_rdL ha
    rcases rd_cases ha with rfl | ⟨n, ys, rfl, h1, h2⟩
    · rfl
    · show (rdL _ C).map _ = _
      rw [this]
      rfl
  · cases hp
def F2 (g : List SV → CS → Option (SV × CS)) (p : PyData → PyData → Option PyData) : Prop := ∀ C x y z, p x y = some z → g [.d x, .d y] C = some (.d z, C)
theorem jd_call2 {g : List SV → CS → Option (SV × CS)} {p : PyData → PyData → Option PyData} (h : F2 g p) (ha : JD B A fa oa) (hb : JD B A fb ob) : JD B A (dCall g (dCons fa (dCons fb dNil))) (oa.bind fun x => ob.bind fun y => p x y) := fun ε C R z e => by
  obtain ⟨x, e1, e⟩ := Option.bind_eq_some_iff.mp e
  obtain ⟨y, e2, e⟩ := Option.bind_eq_some_iff.mp e
  obtain ⟨G1, h1⟩ := ha ε C R x e1
  obtain ⟨G2, h2⟩ := hb ε (C ++ G1) R.app y e2
  exact ⟨G1 ++ G2, by rw [← List.append_assoc]; unfold dCall dCons; simp only [h1, h2, Option.bind_some, dNil, h _ x y z e]⟩
theorem f2_I {F : Int → Int → Option PyData} {g : List SV → CS → Option (SV × CS)} (h : ∀ C i j z, F i j = some z → g [.d (.int i), .d (.int j)] C = some (.d z, C)) : F2 g (pI F) := fun C x y z hp => by
  unfold pI at hp
  split at hp
  · exact h C _ _ z hp
  · cases hp
theorem f2_max2 : F2 gMax2 pMax2 := f2_I fun C i j z e => by cases e; rfl
theorem f2_min2 : F2 gMin2 pMin2 := f2_I fun C i j z e => by cases e; rfl
theorem jd_isi {F : PyData → Bool} (h : JO B A f o) : JD B A (dIsi F f) (o.map fun x => .bool (F x)) := fun ε C R z e => by
  obtain ⟨x, e1, rfl⟩ := Option.map_eq_some_iff.mp e
  obtain ⟨r, G, h1, h2⟩ := h ε C R x e1
  exact ⟨G, by unfold dIsi; simp only [h1, Option.bind_some, h2, Option.map_some]⟩
theorem jm_lstRg (h : JD B A f o) : JM B A (dLstRg f) ((o.bind pTupRg).bind itemsOf) := fun ε C R zs e => by
  obtain ⟨v, e0, e⟩ := Option.bind_eq_some_iff.mp e
  obtain ⟨x, e1, e0⟩ := Option.bind_eq_some_iff.mp e0
  obtain ⟨G, h1⟩ := h ε C R x e1
  unfold pTupRg at e0
  split at e0
  · split at e0
    · rename_i hn
      cases e0
      cases e
      refine ⟨(C ++ G).length, G ++ [some _], ?_, by rw [← List.append_assoc]; exact cellAt_end, by simp⟩
      unfold dLstRg
      simp only [h1, Option.bind_some, hn, and_self, if_true, List.append_assoc]
    · cases e0
  · cases e0
/-! what is gone through -/
theorem ji_seq (h : JD B A f o) : JI B A (diSeq f) (o.bind itemsOf) := fun ε C R xs e => by
  obtain ⟨x, e1, e⟩ := Option.bind_eq_some_iff.mp e
  obtain ⟨G, h1⟩ := h ε C R x e1
  refine ⟨G, ?_⟩
  unfold diSeq
  simp only [h1, Option.bind_some, rd_rdS (a := .d x) rfl e, Option.map_some]
  rfl
theorem ji_rng1 (h : JD B A f o) : JI B A (diRng1 (dCons f dNil)) (o.bind pRange1) := fun ε C R xs e => by
  obtain ⟨x, e1, e⟩ := Option.bind_eq_some_iff.mp e
  obtain ⟨G, h1⟩ := h ε C R x e1
  refine ⟨G, ?_⟩
  unfold pRange1 at e
  split at e
  · split at e
    · cases e
      unfold diRng1 dCons
      simp only [h1, Option.bind_some, dNil]
      rw [if_pos (by omega)]
    · cases e
  · cases e
theorem ji_enum (h : JD B A f o) : JI B A (dIEnum (dCons f dNil)) (o.bind pEnum) := fun ε C R xs e => by
  obtain ⟨x, e1, e⟩ := Option.bind_eq_some_iff.mp e
  obtain ⟨ys, e2, rfl⟩ := Option.map_eq_some_iff.mp e
  obtain ⟨G, h1⟩ := h ε C R x e1
  refine ⟨G, ?_⟩
  unfold dIEnum dCons
  simp only [h1, Option.bind_some, dNil]
  unfold itemsOf at e2
  split at e2
  · cases e2
    simp only [rdT]
  · cases e2
    simp only [rdT, rdL, Option.map_some, pinOf]
  · cases e2
end
end Dn
set_option Elab.async false
set_option linter.all false
set_option maxRecDepth 100000
namespace Dn
open PySem PySem.Spec PyProof.Rows L2
section
variable {B : FB} {A : AE} {α : Type} {fi : DI} {oi : Option (List PyData)} {vs : List Nat} {g : DG} {u : PyData → Option α} {A1 : α → AE} {t : DT} {ot : α → Option Bool} {f : DE} {of_ : α → Option PyData}
/-! ### comprehensions -/
theorem lcl (hg : JG B (wipeA A vs) g u A1) (ht : ∀ a, JT B (A1 a) t (ot a)) (hf : ∀ a, JF B (A1 a) f (of_ a)) {ε : Ev} {C : CS} (R : Rel B A ε C) : ∀ (items acc ys : List PyData), acc.length + items.length ≤ 10000 →
    pSel (fun x => (u x).bind fun a => pIf (ot a) ((of_ a).map some) (some none)) items = some ys → dLcL [] g t f C.length items (wipeE ε vs) (C ++ [some acc]) = some (C ++ [some (acc ++ ys)])
  | [], acc, ys, hl, e => by
    cases e
    unfold dLcL
    rw [if_pos pin_nil, List.append_nil]
  | x :: items, acc, ys, hl, e => by
    simp only [List.length_cons] at hl
    obtain ⟨o, e1, e⟩ := Option.bind_eq_some_iff.mp e
    obtain ⟨zs, e2, rfl⟩ := Option.map_eq_some_iff.mp e
    obtain ⟨a, e3, e4⟩ := Option.bind_eq_some_iff.mp e1
    obtain ⟨b, e5, e6⟩ := Option.bind_eq_some_iff.mp e4
    have R1 : Rel B (wipeA A vs) (wipeE ε vs) (C ++ [some acc]) := (R.wipe vs).app
    obtain ⟨ε1, h1, R2, _⟩ := hg _ _ R1 x a e3
    have h1 := h1 (C ++ [some acc])
    obtain ⟨G1, h2⟩ := ht a _ _ R2 b e5
    unfold dLcL
    rw [if_pos pin_nil, h1]
    simp only [Option.bind_some, h2]
    cases b with
    | false =>
      cases e6
      rw [if_neg (by simp)]
      have : (C ++ [some acc] ++ G1).take (C.length + 1) = C ++ [some acc] := by
        rw [List.take_append_of_le_length (by simp), List.take_of_length_le (by simp)]
      rw [this]
      simpa using lcl hg ht hf R items acc zs (by omega) e2
    | true =>
      obtain ⟨y, e7, rfl⟩ := Option.map_eq_some_iff.mp e6
      obtain ⟨r, G2, h3, h4, h5⟩ := hf a _ _ R2.app y e7
      obtain ⟨C4, k1, k2, k3⟩ := frz_fresh h4 h5
      rw [if_pos rfl, h3]
      simp only [Option.bind_some]
      rw [k1]
      simp only [Option.bind_some]
      have hn : C.length < (C ++ [some acc] ++ G1).length := by simp
      have hc : cellAt C4 C.length = some acc := by
        unfold cellAt
        rw [k3 _ hn, List.append_assoc, List.getElem?_append_right (Nat.le_refl _)]
        simp
      rw [hc]
      simp only [Option.bind_some]
      rw [if_pos (by omega)]
      have h6 : (C4.set C.length (some (acc ++ [y]))).take (C.length + 1) = C ++ [some (acc ++ [y])] := by
        have h7 : C4.take (C.length + 1) = C ++ [some acc] := by
          have := congrArg (List.take (C.length + 1)) k2
          rw [List.take_take, Nat.min_eq_left (by omega)] at this
          rw [this, List.take_append_of_le_length (by simp), List.take_of_length_le (by simp)]
        rw [List.take_set, h7, List.set_append_right _ _ (Nat.le_refl _), Nat.sub_self]
        rfl
      rw [h6, lcl hg ht hf R items (acc ++ [y]) zs (by simp; omega) e2]
      simp
theorem jm_lcT (hi : JI B A fi oi) (hg : JG B (wipeA A vs) g u A1) (ht : ∀ a, JT B (A1 a) t (ot a)) (hf : ∀ a, JF B (A1 a) f (of_ a)) : JM B A (dLc fi vs g t f) (oi.bind fun items => pFil (fun x => (u x).bind fun a => pIf (ot a) ((of_ a).map some) (some none)) items) := fun ε C R ys e => by
  obtain ⟨items, e1, e⟩ := Option.bind_eq_some_iff.mp e
  unfold pFil at e
  split at e
  · rename_i hl
    obtain ⟨G, h1⟩ := hi ε C R items e1
    have := lcl hg ht hf (C := C ++ G) R.app items [] ys (by simpa using hl) e
    refine ⟨(C ++ G).length, G ++ [some ys], ?_, by rw [← List.append_assoc]; exact cellAt_end, by simp⟩
    unfold dLc
    rw [h1]
    simp only [Option.bind_some]
    rw [this]
    simp only [Option.map_some, List.nil_append, List.append_assoc]
  · cases e
theorem sel_map {h : PyData → Option PyData} : ∀ xs : List PyData, pSel (fun x => (h x).map some) xs = xs.mapM h
  | [] => rfl
  | x :: xs => by
    rw [List.mapM_cons, pSel, sel_map xs]
    cases h x with
    | none => rfl
    | some y =>
      cases xs.mapM h <;> rfl
theorem jm_lc (hi : JI B A fi oi) (hg : JG B (wipeA A vs) g u A1) (hf : ∀ a, JF B (A1 a) f (of_ a)) : JM B A (dLc fi vs g dYes f) (oi.bind fun items => pMap (fun x => (u x).bind of_) items) := by
  have := jm_lcT hi hg (fun a => jt_yes) hf
  have e : ∀ items, pFil (fun x => (u x).bind fun a => pIf (some true) ((of_ a).map some) (some none)) items = pMap (fun x => (u x).bind of_) items := fun items => by
    unfold pFil pMap
    rw [← sel_map]
    have : (fun x => (u x).bind fun a => pIf (some true) ((of_ a).map some) (some none)) = fun x => ((u x).bind of_).map some := by
      funext x
      cases u x <;> rfl
    rw [this]
  simp only [e] at this
  exact this
end
/-! ### targets -/
section
variable {B : FB} {A : AE}
theorem jg_1 {i : Nat} {A' : PyData → AE} (hA : ∀ x, A.set i (some (.dat x)) = A' x) : JG B A (dName i) pU1 A' := fun ε C R x a e => by
  cases e
  exact ⟨_, fun _ => rfl, hA x ▸ R.setD i x, hA x ▸ CellKeep.refl.setD i x⟩
theorem jg_2 {i j : Nat} {A' : PyData × PyData → AE} (hA : ∀ a b, (A.set i (some (.dat a))).set j (some (.dat b)) = A' (a, b)) : JG B A (dgTup 2 (dgCons (dName i) (dgCons (dName j) dgNil))) pU2 A' := fun ε C R x a e => by
  unfold pU2 at e
  split at e
  · cases e
    exact ⟨_, fun _ => rfl, hA _ _ ▸ (R.setD i _).setD j _, hA _ _ ▸ (CellKeep.refl.setD i _).setD j _⟩
  · cases e
end
/-! ### statements -/
def NoNext {σ : Type} (o : Option (Step σ)) : Prop := ∀ st, o ≠ some (.inl st)
theorem nn_ret {σ : Type} {x : PyData} : NoNext (σ := σ) (some (.inr x)) := fun st e => by cases e
theorem nn_bind {σ β : Type} {o : Option β} {f : β → Option (Step σ)} (h : ∀ x, NoNext (f x)) : NoNext (o.bind f) := fun st e => by
  obtain ⟨x, _, e⟩ := Option.bind_eq_some_iff.mp e
  exact h x st e
section
variable {B : FB} {A : AE} {σ : Type} {mk : σ → AE} {f fa fb : DE} {o oa ob : Option PyData} {k s : DS} {i j : Nat}
theorem jb_next {st : σ} (h : Sub (mk st) A) : JB B A dNext mk (some (.inl st)) := fun ε C R r e => by
  cases e
  exact ⟨ε, C, rfl, R.sub h⟩
theorem jb_one {os : Option (Step σ)} (h : JB B A (dSeq s dNext) mk os) : JB B A s mk os := by
  have e : dSeq s dNext = s := by
    funext ε C
    unfold dSeq
    cases s ε C with
    | none => rfl
    | some o => cases o <;> rfl
  rw [e] at h
  exact h
theorem jb_ret (h : JD B A f o) : JB B A (dRet f) mk (o.bind fun x => some (.inr x)) := fun ε C R r e => by
  obtain ⟨x, e1, e⟩ := Option.bind_eq_some_iff.mp e
  cases e
  obtain ⟨G, h1⟩ := h ε C R x e1
  exact ⟨C ++ G, by unfold dRet; simp only [h1, Option.map_some], R.app.fr⟩
theorem jb_asg {A' : PyData → AE} {ok : PyData → Option (Step σ)} (h : JF B A f o) (hA : ∀ x, A.set i (some (.dat x)) = A' x) (hk : ∀ x, JB B (A' x) k mk (ok x)) : JB B A (dSeq (dAsg (dFz f) (dName i)) k) mk (o.bind ok) := fun ε C R r e => by
  obtain ⟨x, e1, e⟩ := Option.bind_eq_some_iff.mp e
  have h1 := fz_eq h R e1
  have R1 : Rel B (A' x) (ε.set i (some (.d x))) C := hA x ▸ R.setD i x
  have e2 : dSeq (dAsg (dFz f) (dName i)) k ε C = k (ε.set i (some (.d x))) C := by
    unfold dSeq dAsg
    simp only [h1, Option.bind_some, dName, Option.map_some]
  rw [e2]
  exact hk x _ _ R1 r e
theorem jb_to {e2 : Ev} {A2 : AE} {C2 : CS} {s2 : DS} {ok : Option (Step σ)} (hk : JB B A2 s2 mk ok) {ε : Ev} {C : CS} (R : Rel B A2 e2 C2) (e : s ε C = s2 e2 C2) {r : Step σ} (er : ok = some r) : EndB B mk (s ε C) r := by
  rw [e]
  exact hk _ _ R r er
theorem jb_asgT {α : Type} {g : DG} {u : PyData → Option α} {A' : α → AE} {ok : α → Option (Step σ)} (h : JF B A f o) (hg : JG B A g u A') (hk : ∀ a, JB B (A' a) k mk (ok a)) : JB B A (dSeq (dAsg (dFz f) g) k) mk (o.bind fun x => (u x).bind ok) := fun ε C R r e => by
  obtain ⟨x, e1, e⟩ := Option.bind_eq_some_iff.mp e
  obtain ⟨a, e2, e⟩ := Option.bind_eq_some_iff.mp e
  have h1 := fz_eq h R e1
  obtain ⟨ε1, h2, R1, _⟩ := hg ε C R x a e2
  have h2 := h2 C
  refine jb_to (hk a) R1 ?_ e
  unfold dSeq dAsg
  simp only [h1, Option.bind_some, h2, Option.map_some]
/-- two names at once: data and data, a list and data, data and a list, two lists -/
theorem jb_parDD {A' : PyData → PyData → AE} {ok : PyData → PyData → Option (Step σ)} (ha : JD B A fa oa) (hb : JD B A fb ob) (hA : ∀ x y, (A.set i (some (.dat x))).set j (some (.dat y)) = A' x y) (hk : ∀ x y, JB B (A' x y) k mk (ok x y)) : JB B A (dSeq (dPar i j (dCons fa (dCons fb dNil))) k) mk (oa.bind fun x => ob.bind fun y => ok x y) := fun ε C R r e => by
  obtain ⟨x, e1, e⟩ := Option.bind_eq_some_iff.mp e
  obtain ⟨y, e2, e⟩ := Option.bind_eq_some_iff.mp e
  obtain ⟨G1, h1⟩ := ha ε C R x e1
  obtain ⟨G2, h2⟩ := hb ε (C ++ G1) R.app y e2
  have R1 : Rel B (A' x y) ((ε.set i (some (.d x))).set j (some (.d y))) (C ++ G1 ++ G2) := hA x y ▸ ((R.app.app.setD i x).setD j y)
  refine jb_to (hk x y) R1 ?_ e
  unfold dSeq dPar dCons
  simp only [h1, h2, Option.bind_some, dNil]
theorem jb_drop {ok : Option (Step σ)} (h : JF B A f o) (hk : JB B A k mk ok) : JB B A (dSeq (dDrop (dFz f)) k) mk (o.bind fun _ => ok) := fun ε C R r e => by
  obtain ⟨x, e1, e⟩ := Option.bind_eq_some_iff.mp e
  have h1 := fz_eq h R e1
  refine jb_to hk R ?_ e
  unfold dSeq dDrop
  simp only [h1, Option.bind_some, Option.map_some]
variable {t : DT} {ot : Option Bool} {a b : DS}
theorem jt_tidy {ε : Ev} {C : CS} (h : JT B A t ot) (R : Rel B A ε C) {c : Bool} (e : ot = some c) : dTidyT t ε C = some (c, C) := by
  obtain ⟨G, h1⟩ := h ε C R c e
  unfold dTidyT
  simp only [h1, Option.map_some, List.take_append_of_le_length (Nat.le_refl _), List.take_length]
theorem jb_ifr {os ok : Option (Step σ)} (hc : JT B A t ot) (ha : JB B A a mk os) (hn : NoNext os) (hk : JB B A k mk ok) : JB B A (dSeq (dIfS (dTidyT t) a dNext) k) mk (pIf ot os ok) := fun ε C R r e => by
  obtain ⟨c, e1, e⟩ := Option.bind_eq_some_iff.mp e
  have h1 := jt_tidy hc R e1
  cases c with
  | false =>
    refine jb_to hk R ?_ e
    unfold dSeq dIfS
    simp [h1, dNext]
  | true =>
    have := ha ε C R r e
    cases r with
    | inl st => exact (hn st e).elim
    | inr x =>
      obtain ⟨C', h2, h3⟩ := this
      refine ⟨C', ?_, h3⟩
      unfold dSeq dIfS
      simp [h1, h2]
theorem jb_if {τ : Type} {mk1 : τ → AE} {os ou : Option (Step τ)} {ok : τ → Option (Step σ)} (hc : JT B A t ot) (ha : JB B A a mk1 os) (hb : JB B A b mk1 ou) (hk : ∀ st, JB B (mk1 st) k mk (ok st)) : JB B A (dSeq (dIfS (dTidyT t) a b) k) mk (stepBind (pIf ot os ou) ok) := fun ε C R r e => by
  obtain ⟨q, e0, e⟩ := Option.bind_eq_some_iff.mp e
  obtain ⟨c, e1, e0⟩ := Option.bind_eq_some_iff.mp e0
  have h1 := jt_tidy hc R e1
  have main : ∀ {s1 : DS} {o1 : Option (Step τ)}, JB B A s1 mk1 o1 → o1 = some q → dIfS (dTidyT t) a b ε C = s1 ε C → EndB B mk (dSeq (dIfS (dTidyT t) a b) k ε C) r := fun {s1 o1} h e2 e3 => by
    have := h ε C R q e2
    cases q with
    | inl st =>
      obtain ⟨ε', C', h2, h3⟩ := this
      refine jb_to (hk st) h3 ?_ e
      unfold dSeq
      simp only [e3, h2, Option.bind_some]
    | inr x =>
      obtain ⟨C', h2, h3⟩ := this
      cases e
      refine ⟨C', ?_, h3⟩
      unfold dSeq
      simp only [e3, h2, Option.bind_some]
  cases c with
  | true => exact main ha e0 (by unfold dIfS; simp [h1])
  | false => exact main hb e0 (by unfold dIfS; simp [h1])
theorem jb_for {α τ : Type} {fi : DI} {oi : Option (List PyData)} {g : DG} {u : PyData → Option α} {mk1 : τ → AE} {A1 : τ → α → AE} {st0 : τ} {ob : α → τ → Option (Step τ)} {ok : τ → Option (Step σ)} {body : DS}
    (hi : JI B A fi oi) (h0 : Sub (mk1 st0) A) (hg : ∀ st, JG B (mk1 st) g u (A1 st)) (hb : ∀ st a, JB B (A1 st a) body mk1 (ob a st)) (hk : ∀ st, JB B (mk1 st) k mk (ok st)) :
    JB B A (dSeq (dFor fi g body) k) mk (oi.bind fun items => stepBind (pFor (fun x st => (u x).bind fun a => ob a st) items st0) ok) := fun ε C R r e => by
  obtain ⟨items, e1, e⟩ := Option.bind_eq_some_iff.mp e
  obtain ⟨G, h1⟩ := hi ε C R items e1
  have loop : ∀ (items : List PyData) (st : τ) (ε : Ev) (C : CS) (q : Step τ), Rel B (mk1 st) ε C → pFor (fun x st => (u x).bind fun a => ob a st) items st = some q → EndB B mk1 (dLoop [] g body items ε C) q := by
    intro items
    induction items with
    | nil =>
      intro st ε C q R e
      cases e
      exact ⟨ε, C, by unfold dLoop; rw [if_pos pin_nil], R⟩
    | cons x items ih =>
      intro st ε C q R e
      obtain ⟨p, e1, e⟩ := Option.bind_eq_some_iff.mp e
      obtain ⟨a, e2, e3⟩ := Option.bind_eq_some_iff.mp e1
      obtain ⟨ε1, h2, R1, _⟩ := hg st ε C R x a e2
      have h2 := h2 C
      have h3 := hb st a ε1 C R1 p e3
      cases p with
      | inl st1 =>
        obtain ⟨ε2, C2, h4, R2⟩ := h3
        have h5 := ih st1 ε2 C2 q R2 e
        have h6 : dLoop [] g body (x :: items) ε C = dLoop [] g body items ε2 C2 := by
          rw [dLoop, if_pos pin_nil, h2]
          simp only [Option.bind_some, h4]
        cases q with
        | inl st2 =>
          obtain ⟨ε3, C3, h7, R3⟩ := h5
          exact ⟨ε3, C3, by rw [h6]; exact h7, R3⟩
        | inr y =>
          obtain ⟨C3, h7, R3⟩ := h5
          exact ⟨C3, by rw [h6]; exact h7, R3⟩
      | inr y =>
        cases e
        obtain ⟨C2, h4, R2⟩ := h3
        refine ⟨C2, ?_, R2⟩
        rw [dLoop, if_pos pin_nil, h2]
        simp only [Option.bind_some, h4]
  obtain ⟨q, e2, e⟩ := Option.bind_eq_some_iff.mp e
  have := loop items st0 ε (C ++ G) q (R.app.sub h0) e2
  cases q with
  | inl st =>
    obtain ⟨ε', C', h2, h3⟩ := this
    refine jb_to (hk st) h3 ?_ e
    unfold dSeq dFor
    simp only [h1, Option.bind_some, h2]
  | inr x =>
    obtain ⟨C', h2, h3⟩ := this
    cases e
    refine ⟨C', ?_, h3⟩
    unfold dSeq dFor
    simp only [h1, Option.bind_some, h2]
end
/-! ### a def -/
theorem rel_start_x {args : List PyData} {z i : Nat} (v : AV) (hv : v.x = true) (e : (args.map (fun x => some (AV.dat x)) ++ List.replicate z none : AE)[i]? = some (some v)) : False := by
  by_cases hi : i < args.length
  · rw [List.getElem?_append_left (by simpa using hi), List.getElem?_map] at e
    obtain ⟨y, h1, h2⟩ := Option.map_eq_some_iff.mp e
    cases h2
    cases hv
  · rw [List.getElem?_append_right (by simpa using hi), List.getElem?_replicate] at e
    split at e <;> cases e
theorem rel_start {args : List PyData} {C : CS} {z : Nat} : Rel ⟨C, [], none⟩ (args.map (fun x => some (.dat x)) ++ List.replicate z none) (args.map (fun x => some (.d x)) ++ List.replicate z none) C := by
  refine ⟨by simp, fun i x e => ?_, fun i v e hv => ?_, fun i j v w n e _ hv => ?_, ⟨Nat.le_refl _, fun m hm _ _ => rfl, fun n k h => by simp at h⟩, ⟨fun i v xss e hv => (rel_start_x _ (AV.ns_x hv) e).elim, fun i j v w xss yss e _ hv _ => (rel_start_x _ (AV.ns_x hv) e).elim, fun i xs e => (rel_start_x _ rfl e).elim, fun i xs e => (rel_start_x _ rfl e).elim⟩⟩
  all_goals
    by_cases hi : i < args.length
    · rw [List.getElem?_append_left (by simpa using hi), List.getElem?_map] at e
      obtain ⟨y, h1, h2⟩ := Option.map_eq_some_iff.mp e
      cases h2
      first
        | (cases hv; done)
        | (rw [List.getElem?_append_left (by simpa using hi), List.getElem?_map, h1]; rfl)
    · rw [List.getElem?_append_right (by simpa using hi), List.getElem?_replicate] at e
      split at e <;> cases e
theorem Fr.take {C C' : CS} (h : Fr ⟨C, [], none⟩ C') : C'.take C.length = C := by
  refine List.ext_getElem? fun m => ?_
  by_cases hm : m < C.length
  · rw [List.getElem?_take_of_lt hm]
    exact h.old m hm (fun k z => by simp at z) fun q c z => by cases z
  · rw [List.getElem?_eq_none (by rw [List.length_take]; omega), List.getElem?_eq_none (by omega)]
theorem br_run {σ : Type} {mk : σ → AE} {os : Option (Step σ)} {n m : Nat} {body : DS} {args : List PyData} {A : AE} (hA : args.map (fun x => some (.dat x)) ++ List.replicate (m - n) none = A) (hl : args.length = n) (h : ∀ B, JB B A body mk os) {C : CS} {r : PyData} (e : pRun os = some r) :
    runF n m body (args.map SV.d) C = some (.d r, C) := by
  obtain ⟨q, e1, rfl⟩ := Option.map_eq_some_iff.mp e
  have R : Rel ⟨C, [], none⟩ A (args.map (fun x => some (.d x)) ++ List.replicate (m - n) none) C := hA ▸ rel_start
  have := h ⟨C, [], none⟩ _ _ R q e1
  have e3 : (args.map SV.d).map some ++ List.replicate (m - n) none = args.map (fun x => some (SV.d x)) ++ List.replicate (m - n) none := by rw [List.map_map]; rfl
  unfold runF
  rw [if_pos (by simpa using hl), e3]
  cases q with
  | inl st =>
    obtain ⟨ε', C', h2, h3⟩ := this
    simp only [h2, Option.bind_some, h3.fr.take]
  | inr x =>
    obtain ⟨C', h2, h3⟩ := this
    simp only [h2, Option.bind_some, fin, h3.take]
end Dn
set_option Elab.async false
set_option linter.all false
set_option maxRecDepth 100000
namespace Dn
open PySem PySem.Spec PyProof.Rows L2
theorem opd_sub : OpD gSub pSub := opd_I
theorem opd_pow : OpD gPow pPow := opd_I
theorem opd_inn : OpD gIn pIn := opd_in
theorem opd_notin : OpD gNotIn pNotIn := opd_in
section
variable {B : FB} {A : AE} {σ : Type} {mk : σ → AE} {f fa fb : DE} {o oa ob : Option PyData} {k s : DS} {i j : Nat} {a b : DS} {t : DT} {ot : Option Bool}
theorem jb_never : JB B A dNever mk none := fun ε C R r e => by cases e
theorem nn_none : NoNext (σ := σ) none := fun st e => by cases e
end
@[simp] theorem pRun_some {σ : Type} {x : PyData} : pRun (σ := σ) (some (.inr x)) = some x := rfl
@[simp] theorem pRun_next {σ : Type} {x : σ} : pRun (some (.inl x)) = some .none := rfl
@[simp] theorem pIf_true {α : Type} {a b : Option α} : pIf (some true) a b = a := rfl
@[simp] theorem pIf_false {α : Type} {a b : Option α} : pIf (some false) a b = b := rfl
@[simp] theorem pIf_dec {α : Type} {p : Prop} [Decidable p] {a b : Option α} : pIf (some (decide p)) a b = if p then a else b := by
  by_cases h : p <;> simp [h, pIf]
@[simp] theorem pIf_ndec {α : Type} {p : Prop} [Decidable p] {a b : Option α} : pIf (some (!decide p)) a b = if p then b else a := by
  by_cases h : p <;> simp [h, pIf]
@[simp] theorem pAnd_true {b : Option Bool} : pAnd (some true) b = b := rfl
@[simp] theorem pAnd_false {b : Option Bool} : pAnd (some false) b = some false := rfl
@[simp] theorem pOr_true {b : Option Bool} : pOr (some true) b = some true := rfl
@[simp] theorem pOr_false {b : Option Bool} : pOr (some false) b = b := rfl
@[simp] theorem pNot_some {b : Bool} : pNot (some b) = some (!b) := rfl
@[simp] theorem pFor_nil {σ : Type} {f : PyData → σ → Option (Step σ)} {st : σ} : pFor f [] st = some (.inl st) := rfl
@[simp] theorem pFor_cons {σ : Type} {f : PyData → σ → Option (Step σ)} {st : σ} {x : PyData} {xs : List PyData} : pFor f (x :: xs) st = stepBind (f x st) (pFor f xs) := rfl
end Dn
set_option Elab.async false
set_option linter.all false
set_option maxRecDepth 100000
namespace Dn
open PySem PySem.Spec PyProof.Rows L2
/-! ### with pens: what is wanted ahead, of what is wanted behind -/
def Keep (A : AE) (ε : Ev) (C C' : CS) : Prop := C.length ≤ C'.length ∧ ∀ m, m < C.length → (∀ (i k : Nat), A[i]? = some (some (AV.pen k)) → ε[i]? ≠ some (some (SV.c m))) → C'[m]? = C[m]?
section
variable {B : FB} {A : AE} {ε : Ev} {C C' C2 G : CS}
theorem Keep.refl : Keep A ε C C := ⟨Nat.le_refl _, fun _ _ _ => rfl⟩
theorem Keep.app : Keep A ε C (C ++ G) := ⟨by simp, fun m hm _ => List.getElem?_append_left hm⟩
theorem Keep.trans (h : Keep A ε C C') (k : Keep A ε C' C2) : Keep A ε C C2 := ⟨Nat.le_trans h.1 k.1, fun m hm hn => (k.2 m (Nat.lt_of_lt_of_le hm h.1) hn).trans (h.2 m hm hn)⟩
theorem Rel.slot_lt (R : Rel B A ε C) {i n : Nat} {v : AV} (e : A[i]? = some (some v)) (hv : v.cell = true) (f : ε[i]? = some (some (.c n))) : n < C.length := by
  obtain ⟨m, h1, h2, _⟩ := R.cel i v e hv
  rw [f] at h1
  cases h1
  exact AV.holds_lt h2
/-- back to the cells that stood -/
theorem Rel.back (R : Rel B A ε C) (R' : Rel B A ε C') (h : C.length ≤ C'.length) : Rel B A ε (C'.take C.length) := by
  have hl : (C'.take C.length).length = C.length := by rw [List.length_take]; omega
  refine ⟨R.len, R.dat, fun i v e hv => ?_, R.sep, ⟨by rw [hl]; exact R.long, fun m hm hk ho => ?_, fun n k hk => ?_⟩, R'.x.cells fun i v xss m j e hv f hj => by unfold cellAt; rw [List.getElem?_take_of_lt (R.x.blk e hv f hj).2]⟩
  · obtain ⟨n, h1, h2, h3⟩ := R'.cel i v e hv
    refine ⟨n, h1, AV.holds_same h2 ?_, h3⟩
    unfold cellAt
    rw [List.getElem?_take_of_lt (R.slot_lt e hv h1)]
  · rw [List.getElem?_take_of_lt (by have := R.long; omega)]
    exact R'.fr.old m hm hk ho
  · obtain ⟨k1, q, k2, k3⟩ := R'.fr.pens n k hk
    refine ⟨k1, q, k2, ?_⟩
    unfold cellAt at k3 ⊢
    rw [List.getElem?_take_of_lt (by have := R.long; omega)]
    exact k3
theorem Keep.back (h : Keep A ε C C') : Keep A ε C (C'.take C.length) := ⟨by rw [List.length_take]; have := h.1; omega, fun m hm hn => by rw [List.getElem?_take_of_lt hm]; exact h.2 m hm hn⟩
end
section
variable (B : FB) (A : AE)
def WE (f : DE) (w : (PyData → Prop) → Prop) : Prop := ∀ ε C, Rel B A ε C → ∀ κ, w κ → ∃ x C', f ε C = some (.d x, C') ∧ Rel B A ε C' ∧ Keep A ε C C' ∧ κ x
def WF (f : DE) (w : (PyData → Prop) → Prop) : Prop := ∀ ε C, Rel B A ε C → ∀ κ, w κ → ∃ r x C', f ε C = some (r, C') ∧ Rel B A ε C' ∧ Keep A ε C C' ∧ rdD r C' = some x ∧ (∀ n, r = .c n → C.length ≤ n) ∧ κ x
def WM (f : DE) (w : (List PyData → Prop) → Prop) : Prop := ∀ ε C, Rel B A ε C → ∀ κ, w κ → ∃ n xs C', f ε C = some (.c n, C') ∧ Rel B A ε C' ∧ Keep A ε C C' ∧ cellAt C' n = some xs ∧ C.length ≤ n ∧ κ xs
def WT (f : DT) (w : (Bool → Prop) → Prop) : Prop := ∀ ε C, Rel B A ε C → ∀ κ, w κ → ∃ b C', f ε C = some (b, C') ∧ Rel B A ε C' ∧ Keep A ε C C' ∧ κ b
def WAs (f : DA) (n : Nat) (w : (List PyData → Prop) → Prop) : Prop := ∀ ε C, Rel B A ε C → ∀ κ, w κ → ∃ xs C', f ε C = some (xs.map SV.d, C') ∧ Rel B A ε C' ∧ Keep A ε C C' ∧ xs.length = n ∧ κ xs
def WI (f : DI) (w : (List PyData → Prop) → Prop) : Prop := ∀ ε C, Rel B A ε C → ∀ κ, w κ → ∃ xs C', f ε C = some (⟨xs, []⟩, C') ∧ Rel B A ε C' ∧ Keep A ε C C' ∧ κ xs
def WB {σ : Type} (s : DS) (mk : σ → AE) (w : (σ → Prop) → (PyData → Prop) → Prop) : Prop := ∀ ε C, Rel B A ε C → ∀ Pn Pr, w Pn Pr →
  (∃ st ε' C', s ε C = some (.nx ε' C') ∧ Rel B (mk st) ε' C' ∧ Pn st) ∨ ∃ x C', s ε C = some (.rt (.d x) C') ∧ Fr B C' ∧ Pr x
end
section
variable {B : FB} {A : AE} {f : DE} {n : Nat} {fr : DA} {t : DT} {fi : DI}
theorem cE {w w' : (PyData → Prop) → Prop} (h : WE B A f w) (e : w = w') : WE B A f w' := e ▸ h
theorem cT {w w' : (Bool → Prop) → Prop} (h : WT B A t w) (e : w = w') : WT B A t w' := e ▸ h
theorem cI {w w' : (List PyData → Prop) → Prop} (h : WI B A fi w) (e : w = w') : WI B A fi w' := e ▸ h
theorem cA {w w' : (List PyData → Prop) → Prop} (h : WAs B A fr n w) (e : w = w') : WAs B A fr n w' := e ▸ h
end
/-- what a def with a pen keeps -/
def SpW (m : DF) (k n : Nat) (W : List PyData → (PyData → Prop) → Prop) : Prop := ∀ (C : CS) (j : Nat) (q : List Int) (xs : List PyData) (κ : PyData → Prop), q.length = k → cellAt C j = some (q.map .int) → xs.length = n → W xs κ →
  ∃ x q', m (.c j :: xs.map SV.d) C = some (.d x, C.set j (some ((q' : List Int).map .int))) ∧ q'.length = k ∧ κ x
/-- a def that hands a new pen back -/
def SpN (m : DF) (k n : Nat) (W : List PyData → Prop) : Prop := ∀ (C : CS) (xs : List PyData), xs.length = n → W xs → ∃ q : List Int, m (xs.map SV.d) C = some (.c C.length, C ++ [some (q.map .int)]) ∧ q.length = k
section
variable {B : FB} {A : AE} {f fa fb fz : DE} {o : Option PyData} {ol : Option (List PyData)} {wa wb wf : (PyData → Prop) → Prop} {wl : (List PyData → Prop) → Prop} {i k n : Nat} {fr : DA} {wr : (List PyData → Prop) → Prop}
/-! what draws nothing -/
theorem JD.w (h : JD B A f o) : WE B A f (fun κ => Wo o κ) := fun ε C R κ ⟨x, e, q⟩ => let ⟨G, h1⟩ := h ε C R x e; ⟨x, C ++ G, h1, R.app, Keep.app, q⟩
theorem JF.w (h : JF B A f o) : WF B A f (fun κ => Wo o κ) := fun ε C R κ ⟨x, e, q⟩ => let ⟨r, G, h1, h2, h3⟩ := h ε C R x e; ⟨r, x, C ++ G, h1, R.app, Keep.app, h2, h3, q⟩
theorem JM.w (h : JM B A f ol) : WM B A f (fun κ => Wo ol κ) := fun ε C R κ ⟨x, e, q⟩ => let ⟨n, G, h1, h2, h3⟩ := h ε C R x e; ⟨n, x, C ++ G, h1, R.app, Keep.app, h2, h3, q⟩
theorem JT.w {t : DT} {ot : Option Bool} (h : JT B A t ot) : WT B A t (fun κ => Wo ot κ) := fun ε C R κ ⟨x, e, q⟩ => let ⟨G, h1⟩ := h ε C R x e; ⟨x, C ++ G, h1, R.app, Keep.app, q⟩
theorem JI.w {fi : DI} (h : JI B A fi ol) : WI B A fi (fun κ => Wo ol κ) := fun ε C R κ ⟨x, e, q⟩ => let ⟨G, h1⟩ := h ε C R x e; ⟨x, C ++ G, h1, R.app, Keep.app, q⟩
theorem WE.toF (h : WE B A f wf) : WF B A f wf := fun ε C R κ hw => let ⟨x, C', h1, h2, h3, h4⟩ := h ε C R κ hw; ⟨.d x, x, C', h1, h2, h3, rfl, (fun n e => nomatch e), h4⟩
theorem WM.toF (h : WM B A f wl) : WF B A f (fun κ => wl fun xs => κ (.list xs)) := fun ε C R κ hw => let ⟨n, xs, C', h1, h2, h3, h4, h5, h6⟩ := h ε C R _ hw; ⟨.c n, .list xs, C', h1, h2, h3, by show (cellAt _ n).map _ = _; rw [h4]; rfl, (fun m e => by cases e; exact h5), h6⟩
theorem wa_nil : WAs B A dNil 0 (fun κ => κ []) := fun ε C R κ hw => ⟨[], C, rfl, R, Keep.refl, rfl, hw⟩
theorem wa_cons (h : WE B A f wf) (hr : WAs B A fr n wr) : WAs B A (dCons f fr) (n + 1) (fun κ => wf fun x => wr fun xs => κ (x :: xs)) := fun ε C R κ hw => by
  obtain ⟨x, C1, h1, R1, k1, hw⟩ := h ε C R _ hw
  obtain ⟨xs, C2, h2, R2, k2, h3, hw⟩ := hr ε C1 R1 _ hw
  exact ⟨x :: xs, C2, by unfold dCons; simp only [h1, h2, Option.bind_some, List.map_cons], R2, k1.trans k2, by simp [h3], hw⟩
theorem we_call {m : DF} {P : List PyData → Option PyData} (h : WAs B A fr n wr) (hm : ∀ xs C r, xs.length = n → P xs = some r → m (xs.map SV.d) C = some (.d r, C)) : WE B A (dCall m fr) (fun κ => wr fun xs => Wo (P xs) κ) := fun ε C R κ hw => by
  obtain ⟨xs, C1, h1, R1, k1, h2, z, e, q⟩ := h ε C R _ hw
  exact ⟨z, C1, by unfold dCall; simp only [h1, Option.bind_some, hm xs C1 z h2 e], R1, k1, q⟩
theorem we_callW {m : DF} {W : List PyData → (PyData → Prop) → Prop} (hm : SpW m k n W) (hi : A[i]? = some (some (.pen k))) (h : WAs B A fr n wr) : WE B A (dCall m (dCons (dVar i) fr)) (fun κ => wr fun xs => W xs κ) := fun ε C R κ hw => by
  obtain ⟨j, e1, _, _⟩ := R.cel i _ hi rfl
  obtain ⟨xs, C1, h1, R1, k1, h2, hw⟩ := h ε C R _ hw
  obtain ⟨j', e2, ⟨q, hq, hc⟩, _⟩ := R1.cel i _ hi rfl
  rw [e1] at e2
  cases e2
  obtain ⟨x, q', h3, h4, h5⟩ := hm C1 j q xs κ hq hc h2 hw
  have hA : A.set i (some (.pen k)) = A := by
    refine List.ext_getElem? fun m => ?_
    by_cases hm : i = m
    · subst hm
      rw [List.getElem?_set_self (List.getElem?_eq_some_iff.mp hi).1, hi]
    · rw [List.getElem?_set_ne hm]
  have R2 := R1.putV (w := .pen k) (ys := q'.map .int) hi rfl rfl (fun k' z => z) e1 ⟨q', h4, cellAt_set (cellAt_lt hc)⟩
  rw [hA] at R2
  refine ⟨x, C1.set j (some (q'.map .int)), ?_, R2, ⟨by rw [List.length_set]; exact k1.1, fun m hm hn => ?_⟩, h5⟩
  · unfold dCall dCons
    simp only [dVar, e1, Option.bind_some, h1, h3]
  · rw [List.getElem?_set_ne (fun z => hn i k hi (by rw [← z]; exact e1))]
    exact k1.2 m hm hn
/-! tests -/
variable {t u v : DT} {wt wu wv : (Bool → Prop) → Prop}
theorem wt_test (h : WE B A f wf) : WT B A (dTest f) (fun κ => wf fun x => Wo (asB x) κ) := fun ε C R κ hw => by
  obtain ⟨x, C1, h1, R1, k1, b, e, q⟩ := h ε C R _ hw
  unfold asB at e
  split at e
  · cases e
    exact ⟨_, C1, by unfold dTest; simp only [h1, Option.bind_some], R1, k1, q⟩
  · cases e
theorem wt_or (h : WT B A t wt) (k : WT B A u wu) : WT B A (dOr t u) (fun κ => wt fun b => if b = true then κ true else wu κ) := fun ε C R κ hw => by
  obtain ⟨b, C1, h1, R1, k1, hw⟩ := h ε C R _ hw
  cases b with
  | false =>
    obtain ⟨c, C2, h2, R2, k2, hw⟩ := k ε C1 R1 κ (by simpa using hw)
    exact ⟨c, C2, by unfold dOr; simp [h1, h2], R2, k1.trans k2, hw⟩
  | true => exact ⟨true, C1, by unfold dOr; simp [h1], R1, k1, by simpa using hw⟩
theorem wt_not (h : WT B A t wt) : WT B A (dNot t) (fun κ => wt fun b => κ !b) := fun ε C R κ hw => by
  obtain ⟨b, C1, h1, R1, k1, hw⟩ := h ε C R _ hw
  exact ⟨!b, C1, by unfold dNot; simp [h1], R1, k1, hw⟩
/-! what is gone through -/
end
end Dn
set_option Elab.async false
set_option linter.all false
set_option maxRecDepth 100000
namespace Dn
open PySem PySem.Spec PyProof.Rows L2
/-! ### statements -/
section
variable {B : FB} {A : AE} {σ : Type} {mk : σ → AE} {f fa fb : DE} {k s : DS} {i j : Nat} {w wa wb : (PyData → Prop) → Prop} {wl wm : (List PyData → Prop) → Prop} {wk : (σ → Prop) → (PyData → Prop) → Prop}
abbrev EndW {σ : Type} (B : FB) (mk : σ → AE) (q : Option DO) (Pn : σ → Prop) (Pr : PyData → Prop) : Prop := (∃ st ε' C', q = some (.nx ε' C') ∧ Rel B (mk st) ε' C' ∧ Pn st) ∨ ∃ x C', q = some (.rt (.d x) C') ∧ Fr B C' ∧ Pr x
theorem wb_to {A2 : AE} {s2 : DS} (hk : WB B A2 s2 mk wk) {ε e2 : Ev} {C C2 : CS} (R : Rel B A2 e2 C2) (e : s ε C = s2 e2 C2) {Pn : σ → Prop} {Pr : PyData → Prop} (hw : wk Pn Pr) : EndW B mk (s ε C) Pn Pr := by
  rw [e]
  exact hk _ _ R Pn Pr hw
theorem wb_next {st : σ} (h : Sub (mk st) A) : WB B A dNext mk (fun Pn _ => Pn st) := fun ε C R Pn Pr hw => .inl ⟨st, ε, C, rfl, R.sub h, hw⟩
theorem wb_one {ws : (σ → Prop) → (PyData → Prop) → Prop} (h : WB B A (dSeq s dNext) mk ws) : WB B A s mk ws := by
  have e : dSeq s dNext = s := by
    funext ε C
    unfold dSeq
    cases s ε C with
    | none => rfl
    | some o => cases o <;> rfl
  rw [e] at h
  exact h
theorem wb_ret (h : WE B A f w) : WB B A (dRet f) mk (fun _ Pr => w Pr) := fun ε C R Pn Pr hw => by
  obtain ⟨x, C1, h1, R1, k1, hw⟩ := h ε C R _ hw
  exact .inr ⟨x, C1, by unfold dRet; simp only [h1, Option.map_some], R1.fr, hw⟩
theorem fin_new {n : Nat} {C C1 : CS} {xs : List PyData} (h1 : C.length ≤ n) (h2 : cellAt C1 n = some xs) : fin C.length (.c n) C1 = some (.c C.length, C1.take C.length ++ [some xs]) := by
  unfold fin
  simp only []
  rw [if_neg (by omega), h2]
  rfl
/-- a new pen -/
theorem wb_pen {m : DF} {kk n : Nat} {W : List PyData → Prop} {fr : DA} {wr : (List PyData → Prop) → Prop} {A' : AE} (hm : SpN m kk n W) (ha : WAs B A fr n wr) (hA : A.set i (some (.pen kk)) = A') (hk : WB B A' k mk wk) : WB B A (dSeq (dAsg (dTidy (dCall m fr)) (dName i)) k) mk (fun Pn Pr => wr fun xs => W xs ∧ wk Pn Pr) := fun ε C R Pn Pr hw => by
  obtain ⟨xs, C1, h1, R1, k1, h2, hW, hw⟩ := ha ε C R _ hw
  obtain ⟨q, h3, h4⟩ := hm C1 xs h2 hW
  have hl : (C1.take C.length).length = C.length := by rw [List.length_take]; have := k1.1; omega
  have R2 : Rel B A' (ε.set i (some (.c C.length))) (C1.take C.length ++ [some (q.map .int)]) := by
    have := (R.back R1 k1.1).newV (G := [some (q.map .int)]) (n := C.length) (v := .pen kk) i rfl ⟨q, h4, by have := cellAt_end (C := C1.take C.length) (xs := q.map PyData.int); rwa [hl] at this⟩ (by rw [hl]; exact Nat.le_refl _)
    rw [hA] at this
    exact this
  refine wb_to hk R2 ?_ hw
  have h5 := fin_new (n := C1.length) (C1 := C1 ++ [some (q.map PyData.int)]) k1.1 cellAt_end
  rw [List.take_append_of_le_length k1.1] at h5
  unfold dSeq dAsg dTidy dCall
  simp only [h1, Option.bind_some, h3, h5, dName, Option.map_some]
variable {t : DT} {wt : (Bool → Prop) → Prop} {a b : DS}
theorem wt_tidy {ε : Ev} {C : CS} (h : WT B A t wt) (R : Rel B A ε C) {κ : Bool → Prop} (hw : wt κ) : ∃ c C1, dTidyT t ε C = some (c, C1) ∧ Rel B A ε C1 ∧ κ c := by
  obtain ⟨c, C1, h1, R1, k1, hw⟩ := h ε C R _ hw
  exact ⟨c, C1.take C.length, by unfold dTidyT; simp only [h1, Option.map_some], R.back R1 k1.1, hw⟩
theorem wb_ifr {ws : (σ → Prop) → (PyData → Prop) → Prop} (hc : WT B A t wt) (ha : WB B A a mk ws) (hk : WB B A k mk wk) : WB B A (dSeq (dIfS (dTidyT t) a dNext) k) mk (fun Pn Pr => wt fun c => if c = true then ws (fun _ => False) Pr else wk Pn Pr) := fun ε C R Pn Pr hw => by
  obtain ⟨c, C1, h1, R1, hw⟩ := wt_tidy hc R hw
  cases c with
  | false =>
    refine wb_to hk R1 ?_ (by simpa using hw)
    unfold dSeq dIfS
    simp [h1, dNext]
  | true =>
    rcases ha ε C1 R1 _ _ (by simpa using hw) with ⟨st, _, _, _, _, z⟩ | ⟨x, C', h2, h3, h4⟩
    · exact z.elim
    · refine .inr ⟨x, C', ?_, h3, h4⟩
      unfold dSeq dIfS
      simp [h1, h2]
theorem wb_for {α τ : Type} {fi : DI} {wi : (List PyData → Prop) → Prop} {g : DG} {u : PyData → Option α} {mk1 : τ → AE} {A1 : τ → α → AE} {st0 : τ} {wb : α → τ → (τ → Prop) → (PyData → Prop) → Prop} {wk : τ → (σ → Prop) → (PyData → Prop) → Prop} {body : DS}
    (hi : WI B A fi wi) (h0 : Sub (mk1 st0) A) (hg : ∀ st, JG B (mk1 st) g u (A1 st)) (hb : ∀ st a, WB B (A1 st a) body mk1 (wb a st)) (hk : ∀ st, WB B (mk1 st) k mk (wk st)) :
    WB B A (dSeq (dFor fi g body) k) mk (fun Pn Pr => wi fun items => ∃ J : List PyData → τ → Prop, J items st0 ∧ (∀ x xs st, J (x :: xs) st → ∃ a, u x = some a ∧ wb a st (J xs) Pr) ∧ ∀ st, J [] st → wk st Pn Pr) := fun ε C R Pn Pr hw => by
  obtain ⟨items, C1, h1, R1, k1, J, j0, hJ, hq⟩ := hi ε C R _ hw
  have loop : ∀ (items : List PyData) (st : τ) (ε : Ev) (C : CS), Rel B (mk1 st) ε C → J items st → EndW B mk1 (dLoop [] g body items ε C) (J []) Pr := by
    intro items
    induction items with
    | nil =>
      intro st ε C R j
      exact .inl ⟨st, ε, C, by unfold dLoop; rw [if_pos pin_nil], R, j⟩
    | cons x items ih =>
      intro st ε C R j
      obtain ⟨a, e2, hw⟩ := hJ x items st j
      obtain ⟨ε1, h2, R1, _⟩ := hg st ε C R x a e2
      have h2 := h2 C
      rcases hb st a ε1 C R1 _ _ hw with ⟨st1, ε2, C2, h4, R2, j2⟩ | ⟨y, C2, h4, R2, q⟩
      · have h6 : dLoop [] g body (x :: items) ε C = dLoop [] g body items ε2 C2 := by
          rw [dLoop, if_pos pin_nil, h2]
          simp only [Option.bind_some, h4]
        rw [h6]
        exact ih st1 ε2 C2 R2 j2
      · refine .inr ⟨y, C2, ?_, R2, q⟩
        rw [dLoop, if_pos pin_nil, h2]
        simp only [Option.bind_some, h4]
  rcases loop items st0 ε C1 (R1.sub h0) j0 with ⟨st, ε', C', h2, h3, h4⟩ | ⟨x, C', h2, h3, h4⟩
  · refine wb_to (hk st) h3 ?_ (hq st h4)
    unfold dSeq dFor
    simp only [h1, Option.bind_some, h2]
  · refine .inr ⟨x, C', ?_, h3, h4⟩
    unfold dSeq dFor
    simp only [h1, Option.bind_some, h2]
end
/-! ### defs -/
theorem w_run0 {σ : Type} {mk : σ → AE} {w : (σ → Prop) → (PyData → Prop) → Prop} {n m : Nat} {body : DS} {args : List PyData} {A : AE} (hA : args.map (fun x => some (.dat x)) ++ List.replicate (m - n) none = A) (hl : args.length = n) (h : ∀ B, WB B A body mk w) {C : CS} {κ : PyData → Prop} (hw : w (fun _ => κ .none) κ) :
    ∃ x, runF n m body (args.map SV.d) C = some (.d x, C) ∧ κ x := by
  have R : Rel ⟨C, [], none⟩ A (args.map (fun x => some (.d x)) ++ List.replicate (m - n) none) C := hA ▸ rel_start
  have e3 : (args.map SV.d).map some ++ List.replicate (m - n) none = args.map (fun x => some (SV.d x)) ++ List.replicate (m - n) none := by rw [List.map_map]; rfl
  rcases h ⟨C, [], none⟩ _ _ R _ _ hw with ⟨st, ε', C', h2, h3, h4⟩ | ⟨x, C', h2, h3, h4⟩
  · refine ⟨.none, ?_, h4⟩
    unfold runF
    rw [if_pos (by simpa using hl), e3]
    simp only [h2, Option.bind_some, h3.fr.take]
  · refine ⟨x, ?_, h4⟩
    unfold runF
    rw [if_pos (by simpa using hl), e3]
    simp only [h2, Option.bind_some, fin, h3.take]
end Dn
set_option Elab.async false
set_option linter.all false
set_option maxRecDepth 100000
namespace Dn
open PySem PySem.Spec PyProof.Rows L2 PySem.Calls
open Evl (Ex Ex.refl Ex.trans Ex.new fresh_back ex_l ex_t ex_rd)
/-! ### sorted of a tuple too -/
end Dn
set_option Elab.async false
set_option linter.all false
set_option maxRecDepth 100000
namespace Dn
open PySem PySem.Spec PyProof.Rows L2
/-! ### a comprehension with two fors -/
def pFlat (F : PyData → Option (List PyData)) : List PyData → Option (List PyData)
  | [] => some []
  | x :: xs => (F x).bind fun ys => (pFlat F xs).map fun zs => ys ++ zs
def pCap (o : Option (List PyData)) : Option (List PyData) := o.bind fun ys => if ys.length ≤ 10000 then some ys else none
section
variable {B : FB} {A : AE} {α α1 : Type} {fi fi1 : DI} {oi : Option (List PyData)} {oi1 : α → Option (List PyData)} {vs vs1 : List Nat} {g g1 : DG} {u : PyData → Option α} {u1 : PyData → Option α1} {A1 : α → AE} {A2 : α → α1 → AE} {t t1 : DT} {ot : α → Option Bool} {ot1 : α → α1 → Option Bool} {f : DE} {of_ : α → α1 → Option PyData}
theorem lct {A : AE} {g : DG} {u : PyData → Option α} {A1 : α → AE} {t : DT} {ot : α → Option Bool} {of_ : α → Option PyData} (hg : JG B (wipeA A vs) g u A1) (ht : ∀ a, JT B (A1 a) t (ot a)) (hf : ∀ a, JF B (A1 a) f (of_ a)) {ε : Ev} {C : CS} {n m : Nat} (R : Rel B A ε (C.set n none)) (hm : C.length = m) (hn : n < m) (hfree : ∀ (i : Nat) v, A[i]? = some (some v) → v.cell = true → ε[i]? ≠ some (some (.c n))) (hfx : ∀ (i : Nat) v xss m j, A[i]? = some (some v) → v.ns = some xss → ε[i]? = some (some (.b m xss.length)) → j < xss.length → m + j ≠ n) (hB : B.b.length ≤ n) : ∀ (items acc ys : List PyData), acc.length + ys.length ≤ 10000 →
    pSel (fun x => (u x).bind fun a => pIf (ot a) ((of_ a).map some) (some none)) items = some ys → dLcT [] g t f n m items (wipeE ε vs) (C.set n (some acc)) = some (C.set n (some (acc ++ ys)))
  | [], acc, ys, hl, e => by
    cases e
    unfold dLcT
    rw [if_pos pin_nil, List.append_nil]
  | x :: items, acc, ys, hl, e => by
    obtain ⟨o, e1, e⟩ := Option.bind_eq_some_iff.mp e
    obtain ⟨zs, e2, rfl⟩ := Option.map_eq_some_iff.mp e
    obtain ⟨a, e3, e4⟩ := Option.bind_eq_some_iff.mp e1
    obtain ⟨b, e5, e6⟩ := Option.bind_eq_some_iff.mp e4
    have hlen : (C.set n (some acc)).length = m := by rw [List.length_set]; exact hm
    have R0 : Rel B A ε (C.set n (some acc)) := by
      refine ⟨R.len, R.dat, fun i v e hv => ?_, R.sep, ⟨by rw [List.length_set]; have := R.long; rwa [List.length_set] at this, fun k hk hk2 ho => ?_, fun k q hk => ?_⟩, R.x.cells fun i v xss m j e hv f hj => by rw [cellAt_set_ne (hfx i v xss m j e hv f hj).symm, cellAt_set_ne (hfx i v xss m j e hv f hj).symm]⟩
      · obtain ⟨j, h1, h2, h3⟩ := R.cel i v e hv
        have hj : n ≠ j := fun z => hfree i v e hv (by rw [z]; exact h1)
        refine ⟨j, h1, AV.holds_same h2 ?_, h3⟩
        rw [cellAt_set_ne hj, cellAt_set_ne hj]
      · have := R.fr.old k hk hk2 ho
        rw [List.getElem?_set_ne (by omega)] at this ⊢
        exact this
      · obtain ⟨k1, p, k2, k3⟩ := R.fr.pens k q hk
        rw [cellAt_set_ne (by omega)] at k3
        exact ⟨k1, p, k2, by rw [cellAt_set_ne (by omega)]; exact k3⟩
    obtain ⟨ε1, h1, R2, _⟩ := hg _ _ (R0.wipe vs) x a e3
    have h1 := h1 (C.set n (some acc))
    obtain ⟨G1, h2⟩ := ht a _ _ R2 b e5
    unfold dLcT
    rw [if_pos pin_nil, h1]
    simp only [Option.bind_some, h2]
    cases b with
    | false =>
      cases e6
      rw [if_neg (by simp)]
      have : (C.set n (some acc) ++ G1).take m = C.set n (some acc) := by
        rw [List.take_append_of_le_length (by omega), List.take_of_length_le (by omega)]
      rw [this]
      simpa using lct hg ht hf R hm hn hfree hfx hB items acc zs (by simpa using hl) e2
    | true =>
      obtain ⟨y, e7, rfl⟩ := Option.map_eq_some_iff.mp e6
      obtain ⟨r, G2, h3, h4, h5⟩ := hf a _ _ R2.app y e7
      obtain ⟨C4, k1, k2, k3⟩ := frz_fresh h4 h5
      rw [if_pos rfl, h3]
      simp only [Option.bind_some]
      rw [k1]
      simp only [Option.bind_some]
      have hn2 : n < (C.set n (some acc) ++ G1).length := by rw [List.length_append]; omega
      have hc : cellAt C4 n = some acc := by
        unfold cellAt
        rw [k3 _ hn2, List.getElem?_append_left (by omega), List.getElem?_set_self (by omega)]
        rfl
      rw [hc]
      simp only [Option.bind_some]
      simp only [List.length_append, Option.toList_some, List.length_cons, List.length_nil] at hl
      rw [if_pos (by omega)]
      have h6 : (C4.set n (some (acc ++ [y]))).take m = C.set n (some (acc ++ [y])) := by
        have h7 : C4.take m = C.set n (some acc) := by
          have := congrArg (List.take m) k2
          rw [List.take_take, Nat.min_eq_left (by rw [List.length_append]; omega)] at this
          rw [this, List.take_append_of_le_length (by omega), List.take_of_length_le (by omega)]
        rw [List.take_set, h7, List.set_set]
      rw [h6, lct hg ht hf R hm hn hfree hfx hB items (acc ++ [y]) zs (by simp; omega) e2]
      simp
theorem lc2l (hg : JG B (wipeA A vs) g u A1) (ht : ∀ a, JT B (A1 a) t (ot a)) (hi1 : ∀ a, JI B (A1 a) fi1 (oi1 a)) (hg1 : ∀ a, JG B (wipeA (A1 a) vs1) g1 u1 (A2 a)) (ht1 : ∀ a b, JT B (A2 a b) t1 (ot1 a b)) (hf : ∀ a b, JF B (A2 a b) f (of_ a b)) {ε : Ev} {C : CS} (R : Rel B A ε C) : ∀ (items acc ys : List PyData), acc.length + ys.length ≤ 10000 →
    pFlat (fun x => (u x).bind fun a => pIf (ot a) ((oi1 a).bind fun its => pSel (fun x1 => (u1 x1).bind fun b => pIf (ot1 a b) ((of_ a b).map some) (some none)) its) (some [])) items = some ys → dLc2L [] g t fi1 vs1 g1 t1 f C.length items (wipeE ε vs) (C ++ [some acc]) = some (C ++ [some (acc ++ ys)])
  | [], acc, ys, hl, e => by
    cases e
    unfold dLc2L
    rw [if_pos pin_nil, List.append_nil]
  | x :: items, acc, ys, hl, e => by
    obtain ⟨y1, e1, e⟩ := Option.bind_eq_some_iff.mp e
    obtain ⟨zs, e2, rfl⟩ := Option.map_eq_some_iff.mp e
    obtain ⟨a, e3, e4⟩ := Option.bind_eq_some_iff.mp e1
    obtain ⟨b, e5, e6⟩ := Option.bind_eq_some_iff.mp e4
    obtain ⟨ε1, h1, R1, k1⟩ := hg _ _ (R.wipe vs) x a e3
    have h1 := h1 (C ++ [some acc])
    have R2 : Rel B (A1 a) ε1 (C ++ [some acc]) := R1.app
    obtain ⟨G1, h2⟩ := ht a _ _ R2 b e5
    unfold dLc2L
    rw [if_pos pin_nil, h1]
    simp only [Option.bind_some, h2]
    simp only [List.length_append] at hl
    cases b with
    | false =>
      cases e6
      rw [if_neg (by simp)]
      have : (C ++ [some acc] ++ G1).take (C.length + 1) = C ++ [some acc] := by
        rw [List.take_append_of_le_length (by simp), List.take_of_length_le (by simp)]
      rw [this]
      simpa using lc2l hg ht hi1 hg1 ht1 hf R items acc zs (by simpa using hl) e2
    | true =>
      obtain ⟨its, e7, e8⟩ := Option.bind_eq_some_iff.mp (show ((oi1 a).bind _) = some y1 from e6)
      obtain ⟨G2, h3⟩ := hi1 a _ _ R2.app its e7
      rw [if_pos rfl, h3]
      simp only [Option.bind_some]
      have hset : ∀ acc', (C ++ [some acc] ++ G1 ++ G2).set C.length (some acc') = C ++ [some acc'] ++ G1 ++ G2 := fun acc' => by
        have e : C ++ [some acc] ++ G1 ++ G2 = C ++ (some acc :: (G1 ++ G2)) := by simp
        rw [e, List.set_append_right _ _ (Nat.le_refl _), Nat.sub_self]
        simp
      have R3 : Rel B (A1 a) ε1 ((C ++ [some acc] ++ G1 ++ G2).set C.length none) := by
        have : (C ++ [some acc] ++ G1 ++ G2).set C.length none = C ++ ([none] ++ G1 ++ G2) := by
          have e : C ++ [some acc] ++ G1 ++ G2 = C ++ (some acc :: (G1 ++ G2)) := by simp
          rw [e, List.set_append_right _ _ (Nat.le_refl _), Nat.sub_self]
          simp
        rw [this]
        exact R1.app
      have inner := lct (C := C ++ [some acc] ++ G1 ++ G2) (m := (C ++ [some acc] ++ G1 ++ G2).length) (n := C.length) (hg1 a) (ht1 a) (hf a) R3 rfl (by simp) (fun i v e hv f => by have := R1.slot_lt e hv f; omega) (fun i v xss m j e hv f hj => by have := (R1.x.blk e hv f hj).2; omega) R.long its acc y1 (by omega) e8
      rw [hset, hset] at inner
      rw [inner]
      simp only [Option.bind_some]
      have : (C ++ [some (acc ++ y1)] ++ G1 ++ G2).take (C.length + 1) = C ++ [some (acc ++ y1)] := by
        rw [List.append_assoc, List.take_append_of_le_length (by simp), List.take_of_length_le (by simp)]
      rw [this, lc2l hg ht hi1 hg1 ht1 hf R items (acc ++ y1) zs (by rw [List.length_append]; omega) e2, List.append_assoc]
theorem jm_lc2 (hi : JI B A fi oi) (hg : JG B (wipeA A vs) g u A1) (ht : ∀ a, JT B (A1 a) t (ot a)) (hi1 : ∀ a, JI B (A1 a) fi1 (oi1 a)) (hg1 : ∀ a, JG B (wipeA (A1 a) vs1) g1 u1 (A2 a)) (ht1 : ∀ a b, JT B (A2 a b) t1 (ot1 a b)) (hf : ∀ a b, JF B (A2 a b) f (of_ a b)) :
    JM B A (dLc2 fi vs g t fi1 vs1 g1 t1 f) (oi.bind fun items => pCap (pFlat (fun x => (u x).bind fun a => pIf (ot a) ((oi1 a).bind fun its => pSel (fun x1 => (u1 x1).bind fun b => pIf (ot1 a b) ((of_ a b).map some) (some none)) its) (some [])) items)) := fun ε C R ys e => by
  obtain ⟨items, e1, e⟩ := Option.bind_eq_some_iff.mp e
  obtain ⟨zs, e2, e⟩ := Option.bind_eq_some_iff.mp e
  split at e
  · rename_i hl
    cases e
    obtain ⟨G, h1⟩ := hi ε C R items e1
    have := lc2l hg ht hi1 hg1 ht1 hf (C := C ++ G) R.app items [] ys (by simpa using hl) e2
    refine ⟨(C ++ G).length, G ++ [some ys], ?_, by rw [← List.append_assoc]; exact cellAt_end, by simp⟩
    unfold dLc2
    rw [h1]
    simp only [Option.bind_some]
    rw [this]
    simp only [Option.map_some, List.nil_append, List.append_assoc]
  · cases e
end
/-! ### xs.insert(i, x) -/
/-! sorted, of a tuple too -/
noncomputable def pSortedS (x : PyData) : Option (List PyData) := (itemsOf x).bind fun xs => if srtOk xs then some (srt xs) else none
@[simp] theorem pSortedS_l {xs : List PyData} : pSortedS (.list xs) = pSorted (.list xs) := rfl
end Dn
set_option Elab.async false
set_option linter.all false
set_option maxRecDepth 100000
namespace Pg
open PySem PySem.Spec PyProof.Rows L2 Dn
open Classical
/-! ### houses and lights, read off data -/
structure Hs (ts : List Int) (cs : List Cord) : Prop where
  tops : Tops ts
  c10 : cs.length ≤ 10
  ok : Bn.HouseOk ts cs
  lng : ∀ cd ∈ cs, cd.2.2.2.2 ≤ 1000000
structure Ls (ts : List Int) (ls : List Lgt) : Prop where
  lits : Lits ts.length ls
  l7 : ls.length ≤ 7
abbrev lightsD (ls : List Lgt) : PyData := .tuple (ls.map lgtD)
abbrev talesD (T : List (List Setg)) : PyData := .tuple (T.map taleD)
abbrev catchesD (ks : List (Option Int)) : PyData := .tuple (ks.map optD)
abbrev toldD (cs : List Cord) (T : List (List Setg)) : PyData := .tuple [talesD T, catchesD (catchesOf cs T)]
def intOf : PyData → Int
  | .int i => i
  | _ => 0
def optOf : PyData → Option Int
  | .int i => some i
  | _ => none
def setOf' : PyData → Setg
  | .tuple [a, b, c] => (intOf a, intOf b, optOf c)
  | _ => (0, 0, none)
def cordOf : PyData → Cord
  | .tuple [a, b, c, d, e] => (intOf a, intOf b, intOf c, intOf d, intOf e)
  | _ => (0, 0, 0, 0, 0)
def lgtOf : PyData → Lgt
  | .tuple [a, b] => (intOf a, intOf b)
  | _ => (0, 0)
def elems : PyData → List PyData
  | .tuple xs => xs
  | _ => []
def decTs : PyData → List Int
  | .tuple [x, _] => (elems x).map intOf
  | _ => []
def decCs : PyData → List Cord
  | .tuple [_, y] => (elems y).map cordOf
  | _ => []
def decLs (x : PyData) : List Lgt := (elems x).map lgtOf
def decT (x : PyData) : List Setg := (elems x).map setOf'
theorem map_id' {α β : Type} {f : α → β} {g : β → α} (h : ∀ x, g (f x) = x) (xs : List α) : (xs.map f).map g = xs := by
  rw [List.map_map]
  have : (g ∘ f) = id := by funext x; exact h x
  rw [this, List.map_id]
@[simp] theorem cordOf_eq (c : Cord) : cordOf (cordD c) = c := rfl
@[simp] theorem lgtOf_eq (l : Lgt) : lgtOf (lgtD l) = l := rfl
@[simp] theorem optOf_eq (k : Option Int) : optOf (optD k) = k := by cases k <;> rfl
@[simp] theorem setOf_eq (s : Setg) : setOf' (setD s) = s := by
  obtain ⟨a, b, c⟩ := s
  show (a, b, optOf (optD c)) = _
  rw [optOf_eq]
@[simp] theorem decTs_eq {ts : List Int} {cs : List Cord} : decTs (houseD ts cs) = ts := map_id' (fun x => rfl) ts
@[simp] theorem decCs_eq {ts : List Int} {cs : List Cord} : decCs (houseD ts cs) = cs := map_id' cordOf_eq cs
@[simp] theorem decLs_eq {ls : List Lgt} : decLs (lightsD ls) = ls := map_id' lgtOf_eq ls
@[simp] theorem decT_eq {t : List Setg} : decT (taleD t) = t := map_id' setOf_eq t
def IsH (h : PyData) : Prop := h = houseD (decTs h) (decCs h) ∧ Hs (decTs h) (decCs h)
def IsL (h l : PyData) : Prop := l = lightsD (decLs l) ∧ Ls (decTs h) (decLs l)
section
variable {ts : List Int} {cs : List Cord} {ls : List Lgt} {C : CS}
theorem isH_of (h : Hs ts cs) : IsH (houseD ts cs) := ⟨by rw [decTs_eq, decCs_eq], by rw [decTs_eq, decCs_eq]; exact h⟩
theorem isL_of (l : Ls ts ls) : IsL (houseD ts cs) (lightsD ls) := ⟨by rw [decLs_eq], by rw [decTs_eq, decLs_eq]; exact l⟩
theorem Ls.lights (l : Ls ts ls) : Bn.LightsOk ts ls := l.lits.lights
theorem Hs.house (h : Hs ts cs) : isHouse (houseD ts cs) = true := isHouse_of h.tops h.c10 h.ok h.lng
theorem Ls.are (l : Ls ts ls) : areLights ts.length (lightsD ls) = true := lits_are l.lits
theorem Hs.t7 (h : Hs ts cs) : ts.length ≤ 7 := h.tops.2.1
theorem Hs.top (h : Hs ts cs) : ∀ t ∈ ts, 1 ≤ t ∧ t ≤ 1000000 := h.tops.2.2
/-! ### what burns -/
noncomputable def tales (ts : List Int) (cs : List Cord) (ls : List Lgt) : List (List Setg) := if e : ∃ T, Bn.IsTales ts cs ls T then e.choose else []
theorem burnt_ex (h : Hs ts cs) (l : Ls ts ls) (C : CS) : ∃ T, Bn.IsTales ts cs ls T ∧ m_burnt_tales [.d (houseD ts cs), .d (lightsD ls)] C = some (.d (talesD T), C) := by
  have := burnt_spec (C := C) (P := fun y => ∃ T, Bn.IsTales ts cs ls T ∧ y = (.d (talesD T), C)) h.ok l.lights h.t7 h.c10 l.l7 fun T m => ⟨T, m, rfl⟩
  obtain ⟨y, e, T, m, rfl⟩ := this
  exact ⟨T, m, e⟩
theorem tales_is (h : Hs ts cs) (l : Ls ts ls) : Bn.IsTales ts cs ls (tales ts cs ls) := by
  obtain ⟨T, m, _⟩ := burnt_ex h l []
  have e : ∃ T, Bn.IsTales ts cs ls T := ⟨T, m⟩
  unfold tales
  rw [dif_pos e]
  exact e.choose_spec
theorem tales_eq (h : Hs ts cs) (l : Ls ts ls) {T : List (List Setg)} (m : Bn.IsTales ts cs ls T) : tales ts cs ls = T := (tales_is h l).uniq h.ok m
theorem burnt_eq (h : Hs ts cs) (l : Ls ts ls) (C : CS) : m_burnt_tales [.d (houseD ts cs), .d (lightsD ls)] C = some (.d (talesD (tales ts cs ls)), C) := by
  obtain ⟨T, m, e⟩ := burnt_ex h l C
  rw [e, tales_eq h l m]
theorem tales_len (h : Hs ts cs) (l : Ls ts ls) : (tales ts cs ls).length = ts.length := (tales_is h l).len
end
/-! ### the functions, on data alone -/
noncomputable def p_burnt_tales (h l : PyData) : Option PyData := if IsH h ∧ IsL h l then some (talesD (tales (decTs h) (decCs h) (decLs l))) else none
theorem br_burnt_tales (h l : PyData) (C : CS) (r : PyData) (e : p_burnt_tales h l = some r) : m_burnt_tales [.d h, .d l] C = some (.d r, C) := by
  unfold p_burnt_tales at e
  split at e
  · rename_i hh
    cases e
    obtain ⟨⟨h1, h2⟩, l1, l2⟩ := hh
    have := burnt_eq h2 l2 C
    rw [← h1, ← l1] at this
    exact this
  · cases e
noncomputable def p_need_house (h : PyData) : Option PyData := if IsH h then some .none else none
theorem br_need_house (h : PyData) (C : CS) (r : PyData) (e : p_need_house h = some r) : m_need_house [.d h] C = some (.d r, C) := by
  unfold p_need_house at e
  split at e
  · rename_i hh
    cases e
    refine eq_of_wo ((need_eq ?_).mpr rfl)
    rw [hh.1]
    exact hh.2.house
  · cases e
noncomputable def p_need_lights (h l : PyData) : Option PyData := if IsH h ∧ IsL h l then some .none else none
theorem br_need_lights (h l : PyData) (C : CS) (r : PyData) (e : p_need_lights h l = some r) : m_need_lights [.d h, .d l] C = some (.d r, C) := by
  unfold p_need_lights at e
  split at e
  · rename_i hh
    cases e
    obtain ⟨⟨h1, h2⟩, l1, l2⟩ := hh
    rw [h1, l1]
    exact eq_of_wo ((needL_eq (C := C) (ts := decTs h) (cs := .tuple ((decCs h).map cordD)) (d := lightsD (decLs l)) (fun xs e => by cases e; have := l2.l7; rw [List.length_map]; omega) h2.house l2.are).mpr rfl)
  · cases e
noncomputable def p_is_candle (h c : PyData) : Option PyData := if IsH h then some (.bool (wIn c 0 ((decTs h).length - 1))) else none
theorem br_is_candle (h c : PyData) (C : CS) (r : PyData) (e : p_is_candle h c = some r) : m_is_candle [.d h, .d c] C = some (.d r, C) := by
  unfold p_is_candle at e
  split at e
  · rename_i hh
    cases e
    rw [hh.1, decTs_eq]
    exact eq_of_wo (candle_eq.mpr rfl)
  · cases e
noncomputable def p_flame_in (t b : PyData) : Option PyData := if t = taleD (decT t) then (asI b).map fun i => .int (flame (decT t) i) else none
noncomputable def p_catch_of (t b : PyData) : Option PyData := if t = taleD (decT t) then (asI b).map fun i => optD (catchOf (decT t) i) else none
noncomputable def p_is_whole (x : PyData) : Option PyData := some (.bool (x.isInt && !x.isBool))
noncomputable def p_is_from_to (x a b : PyData) : Option PyData := (asI a).bind fun lo => (asI b).map fun hi => .bool (wIn x lo hi)
theorem br_is_from_to (x a b : PyData) (C : CS) (r : PyData) (e : p_is_from_to x a b = some r) : m_is_from_to [.d x, .d a, .d b] C = some (.d r, C) := by
  obtain ⟨lo, h1, e⟩ := Option.bind_eq_some_iff.mp e
  obtain ⟨hi, h2, rfl⟩ := Option.map_eq_some_iff.mp e
  unfold asI at h1 h2
  split at h1
  · split at h2
    · cases h1
      cases h2
      exact eq_of_wo (from_to_eq.mpr rfl)
    · cases h2
  · cases h1
theorem rising_eqT {C : CS} {P : SV × CS → Prop} {xs : List PyData} (hl : xs.length ≤ 10000) (hints : ∀ y ∈ xs, ∃ i : Int, y = .int i) : Wo (m_are_rising [.d (.tuple xs)] C) P ↔ P (.d (.bool (risen xs)), C) := by
  unfold m_are_rising
  rw [wo_run1]
  unfold b_are_rising
  have hz : dIZip (dCons (dVar 0) (dCons (dCut (dVar 0) (dPart (dC (.int 1))) dNo) dNil)) [some (.d (.tuple xs)), none, none] C = some (⟨(xs.zip xs.tail).map fun p => .tuple [p.1, p.2], []⟩, C) := by
    refine eq_of_wo ?_
    simp [dIZip, dVar, dCut, dPart, gCut, dNo, rdT, rdL, pinOf, cut_tail]
  simp
  rw [lcW_eq (fun t => match t with | .tuple [a, b] => .bool (lt2 (a, b)) | _ => .none) hz (fun D => pin_nil) (by simp; omega) fun x hx D => by
    obtain ⟨⟨y, z⟩, hp, rfl⟩ := List.mem_map.mp hx
    obtain ⟨i, rfl⟩ := hints y (List.of_mem_zip hp).1
    obtain ⟨j, rfl⟩ := hints z (List.mem_of_mem_tail (List.of_mem_zip hp).2)
    refine ⟨[some (.d (.tuple xs)), some (.d (.int i)), some (.d (.int j))], eq_of_wo ?_, [], eq_of_wo ?_⟩
    · simp [wipeE]
    · simp [dVar, lt2]]
  simp [fAll]
  show Wo (blsOf (List.map (fun p => .bool (lt2 p)) _)) _ ↔ _
  rw [blsOf_map]
  simp [risen]
noncomputable def p_are_rising (x : PyData) : Option PyData := match x with
  | .tuple xs => if xs.length ≤ 10000 ∧ ∀ y ∈ xs, ∃ i : Int, y = .int i then some (.bool (risen xs)) else none
  | _ => none
theorem br_are_rising (x : PyData) (C : CS) (r : PyData) (e : p_are_rising x = some r) : m_are_rising [.d x] C = some (.d r, C) := by
  unfold p_are_rising at e
  split at e
  · split at e
    · rename_i hh
      cases e
      exact eq_of_wo ((rising_eqT hh.1 hh.2).mpr rfl)
    · cases e
  · cases e
def decTT (x : PyData) : List (List Setg) := (elems x).map decT
@[simp] theorem decTT_eq {T : List (List Setg)} : decTT (talesD T) = T := map_id' (fun t => decT_eq) T
@[simp] theorem is_whole_int {i : Int} : p_is_whole (.int i) = some (.bool true) := rfl
@[simp] theorem is_from_to_eq {x : PyData} {lo hi : Int} : p_is_from_to x (.int lo) (.int hi) = some (.bool (wIn x lo hi)) := rfl
section
variable {ts : List Int} {cs : List Cord} {ls : List Lgt} {t : List Setg} {b : Int}
theorem burnt_tales_eq (h : Hs ts cs) (l : Ls ts ls) : p_burnt_tales (houseD ts cs) (lightsD ls) = some (talesD (tales ts cs ls)) := by
  unfold p_burnt_tales
  rw [if_pos ⟨isH_of h, isL_of l⟩, decTs_eq, decCs_eq, decLs_eq]
theorem need_house_eq (h : Hs ts cs) : p_need_house (houseD ts cs) = some .none := by
  unfold p_need_house
  rw [if_pos (isH_of h)]
theorem need_lights_eq (h : Hs ts cs) (l : Ls ts ls) : p_need_lights (houseD ts cs) (lightsD ls) = some .none := by
  unfold p_need_lights
  rw [if_pos ⟨isH_of h, isL_of l⟩]
theorem is_candle_eq (h : Hs ts cs) {c : PyData} : p_is_candle (houseD ts cs) c = some (.bool (wIn c 0 (ts.length - 1))) := by
  unfold p_is_candle
  rw [if_pos (isH_of h), decTs_eq]
@[simp] theorem flame_in_eq : p_flame_in (taleD t) (.int b) = some (.int (flame t b)) := by
  unfold p_flame_in
  rw [if_pos (by rw [decT_eq]), decT_eq]
  rfl
@[simp] theorem catch_of_eq : p_catch_of (taleD t) (.int b) = some (optD (catchOf t b)) := by
  unfold p_catch_of
  rw [if_pos (by rw [decT_eq]), decT_eq]
  rfl
end
end Pg
set_option Elab.async false
set_option linter.all false
set_option maxRecDepth 100000
set_option maxHeartbeats 4000000
namespace Pg
open PySem PySem.Spec PyProof.Rows L2 Dn
noncomputable def b_need_candle : DS := (dIfS (dTidyT (dNot (dTest (dCall Pg.m_is_candle (dCons (dVar 0) (dCons (dVar 1) dNil)))))) dNever dNext)
noncomputable def m_need_candle : DF := runF 2 2 b_need_candle
noncomputable def q_need_candle (v_house v_candle : PyData) : Option (Step Unit) :=
    (pIf (pNot (((((some v_house)).bind fun a2_0 => ((some v_candle)).bind fun a2_1 => Pg.p_is_candle a2_0 a2_1)).bind asB)) none
    (some (.inl ())))
@[irreducible] noncomputable def p_need_candle (v_house v_candle : PyData) : Option PyData := pRun (q_need_candle v_house v_candle)
theorem jb_need_candle (v_house v_candle : PyData) (B : FB) : JB B [some (.dat v_house), some (.dat v_candle)] b_need_candle (fun _ : Unit => ([none, none] : AE)) (q_need_candle v_house v_candle) := by
  unfold q_need_candle b_need_candle
  exact (jb_one (jb_ifr (jt_not (jt_test (jd_call (P := (fun xs => match xs with | [b1_0, b1_1] => Pg.p_is_candle b1_0 b1_1 | _ => none)) (ja_cons (jd_var rfl) (ja_cons (jd_var rfl) ja_nil)) (fun xs C r hl hp => match xs, hl, hp with | [b1_0, b1_1], _, hp => Pg.br_is_candle b1_0 b1_1 C r hp)))) jb_never nn_none (jb_next (.drop _ (.drop _ .nil)))))
theorem br_need_candle (v_house v_candle : PyData) (C : CS) (r : PyData) (h : p_need_candle v_house v_candle = some r) : m_need_candle [.d v_house, .d v_candle] C = some (.d r, C) := br_run (n := 2) (m := 2) (body := b_need_candle) (args := [v_house, v_candle]) (A := [some (.dat v_house), some (.dat v_candle)]) (os := q_need_candle v_house v_candle) rfl rfl (fun B => jb_need_candle v_house v_candle B) (by unfold p_need_candle at h; exact h)
end Pg
set_option Elab.async false
set_option linter.all false
set_option maxRecDepth 100000
namespace Pg
open PySem PySem.Spec PyProof.Rows L2 Dn
/-! ### the first family's pen -/
/-! the first cell of a script -/
end Pg
set_option Elab.async false
set_option linter.all false
set_option maxRecDepth 100000
set_option maxHeartbeats 4000000
namespace Pg
open PySem PySem.Spec PyProof.Rows L2 Dn
def pU_LnLnnnRR : PyData → Option (PyData × PyData × PyData × PyData)
  | .tuple [a0, .tuple [a1, a2, a3]] => some (a0, a1, a2, a3)
  | _ => none
@[simp] theorem pU_LnLnnnRR_eq {a0 a1 a2 a3 : PyData} : pU_LnLnnnRR (.tuple [a0, .tuple [a1, a2, a3]]) = some (a0, a1, a2, a3) := rfl
end Pg
set_option Elab.async false
set_option linter.all false
set_option maxRecDepth 100000
set_option maxHeartbeats 4000000
namespace Pg
open PySem PySem.Spec PyProof.Rows L2 Dn
end Pg
set_option Elab.async false
set_option linter.all false
set_option maxRecDepth 100000
set_option maxHeartbeats 4000000
namespace Pg
open PySem PySem.Spec PyProof.Rows L2 Dn
end Pg
set_option Elab.async false
set_option linter.all false
set_option maxRecDepth 100000
set_option maxHeartbeats 4000000
namespace Pg
open PySem PySem.Spec PyProof.Rows L2 Dn
end Pg
set_option Elab.async false
set_option linter.all false
set_option maxRecDepth 100000
set_option maxHeartbeats 4000000
namespace Pg
open PySem PySem.Spec PyProof.Rows L2 Dn
end Pg
set_option Elab.async false
set_option linter.all false
set_option maxRecDepth 100000
set_option maxHeartbeats 4000000
namespace Pg
open PySem PySem.Spec PyProof.Rows L2 Dn
noncomputable def b_is_pick : DS := (dSeq (dIfS (dTidyT (dNot (dTest (dIsi PyData.isTuple (dVar 0))))) (dRet (dC (.bool false))) dNext)
    (dRet (dAndV (dCall (gLook fAll) (dCons (dLc (diSeq (dVar 0)) [2] (dName 2) dYes (dCall Pg.m_is_from_to (dCons (dVar 2) (dCons (dC (.int 0)) (dCons (dOp gSub (dVar 1) (dC (.int 1))) dNil))))) dNil)) (dCall Pg.m_are_rising (dCons (dVar 0) dNil)))))
noncomputable def m_is_pick : DF := runF 2 3 b_is_pick
noncomputable def q_is_pick (v_thing v_many : PyData) : Option (Step Unit) :=
    (pIf (pNot (((((some v_thing)).map fun x => PyData.bool (PyData.isTuple x))).bind asB)) (((some (PyData.bool false))).bind fun x => some (.inr x))
    (((pIf (((((((((((some v_thing)).bind itemsOf)).bind fun items => pMap (fun x => (pU1 x).bind fun v_number => (((some v_number)).bind fun a2_0 => ((some (PyData.int 0))).bind fun a2_1 => ((((some v_many)).bind fun x => ((some (PyData.int 1))).bind fun y => pSub x y)).bind fun a2_2 => Pg.p_is_from_to a2_0 a2_1 a2_2)) items)).map PyData.list)).bind (pLook fAll))).bind asB) (((some v_thing)).bind fun a4_0 => Pg.p_are_rising a4_0) (some (.bool false)))).bind fun x => some (.inr x)))
@[irreducible] noncomputable def p_is_pick (v_thing v_many : PyData) : Option PyData := pRun (q_is_pick v_thing v_many)
theorem jb_is_pick (v_thing v_many : PyData) (B : FB) : JB B [some (.dat v_thing), some (.dat v_many), none] b_is_pick (fun _ : Unit => ([none, none, none] : AE)) (q_is_pick v_thing v_many) := by
  unfold q_is_pick b_is_pick
  exact (jb_ifr (jt_not (jt_test (jd_isi (((jd_var rfl)).toF).toO))) (jb_ret jd_c) (nn_bind fun _ => nn_ret) (jb_ret (jd_andV (jd_call1 f1_look (((jm_lc (A1 := (fun v_number => ([some (.dat v_thing), some (.dat v_many), some (.dat v_number)] : AE))) (ji_seq (jd_var rfl)) (jg_1 (fun _ => rfl)) (fun v_number => ((jd_call (P := (fun xs => match xs with | [b1_0, b1_1, b1_2] => Pg.p_is_from_to b1_0 b1_1 b1_2 | _ => none)) (ja_cons (jd_var rfl) (ja_cons jd_c (ja_cons (jd_op opd_sub (((jd_var rfl)).toF).toO ((jd_c).toF).toO) ja_nil))) (fun xs C r hl hp => match xs, hl, hp with | [b1_0, b1_1, b1_2], _, hp => Pg.br_is_from_to b1_0 b1_1 b1_2 C r hp))).toF))).toF).toO) (jd_call (P := (fun xs => match xs with | [b3_0] => Pg.p_are_rising b3_0 | _ => none)) (ja_cons (jd_var rfl) ja_nil) (fun xs C r hl hp => match xs, hl, hp with | [b3_0], _, hp => Pg.br_are_rising b3_0 C r hp)))))
theorem br_is_pick (v_thing v_many : PyData) (C : CS) (r : PyData) (h : p_is_pick v_thing v_many = some r) : m_is_pick [.d v_thing, .d v_many] C = some (.d r, C) := br_run (n := 2) (m := 3) (body := b_is_pick) (args := [v_thing, v_many]) (A := [some (.dat v_thing), some (.dat v_many), none]) (os := q_is_pick v_thing v_many) rfl rfl (fun B => jb_is_pick v_thing v_many B) (by unfold p_is_pick at h; exact h)
noncomputable def b_cut_off : DS := (dSeq (dAsg (dFz (dVar 0)) (dgTup 2 (dgCons (dName 2) (dgCons (dName 3) dgNil))))
    (dRet (dCall gTup (dCons (dVar 2) (dCons (dCall gTuple (dCons (dLc (dIEnum (dCons (dVar 3) dNil)) [4, 5] (dgTup 2 (dgCons (dName 4) (dgCons (dName 5) dgNil))) (dTest (dOp gNotIn (dVar 4) (dVar 1))) (dVar 5)) dNil)) dNil)))))
noncomputable def m_cut_off : DF := runF 2 6 b_cut_off
noncomputable def q_cut_off (v_house v_cords : PyData) : Option (Step Unit) :=
    (((some v_house)).bind fun x => (pU2 x).bind fun (v_tops, v_hung) =>
    (((((some v_tops)).bind fun a5_0 => ((((((((((some v_hung)).bind pEnum)).bind fun items => pFil (fun x => (pU2 x).bind fun (v_number, v_cord) => pIf ((((some v_number)).bind fun x => ((some v_cords)).bind fun y => pNotIn x y).bind asB) (((some v_cord)).map some) (some none)) items)).map PyData.list)).bind pTuple)).bind fun a5_1 => some (.tuple [a5_0, a5_1]))).bind fun x => some (.inr x)))
@[irreducible] noncomputable def p_cut_off (v_house v_cords : PyData) : Option PyData := pRun (q_cut_off v_house v_cords)
theorem jb_cut_off (v_house v_cords : PyData) (B : FB) : JB B [some (.dat v_house), some (.dat v_cords), none, none, none, none] b_cut_off (fun _ : Unit => ([none, none, none, none, none, none] : AE)) (q_cut_off v_house v_cords) := by
  unfold q_cut_off b_cut_off
  exact (jb_asgT (A' := fun (v_tops, v_hung) => ([some (.dat v_house), some (.dat v_cords), some (.dat v_tops), some (.dat v_hung), none, none] : AE)) ((jd_var rfl)).toF (jg_2 (fun _ _ => rfl)) (fun ⟨v_tops, v_hung⟩ => (jb_ret (jd_tup (ja_cons (jd_var rfl) (ja_cons (jd_call1 f1_tuple (((jm_lcT (A1 := (fun (v_number, v_cord) => ([some (.dat v_house), some (.dat v_cords), some (.dat v_tops), some (.dat v_hung), some (.dat v_number), some (.dat v_cord)] : AE))) (ji_enum (jd_var rfl)) (jg_2 (fun _ _ => rfl)) (fun ⟨v_number, v_cord⟩ => (jt_test (jd_op opd_notin (((jd_var rfl)).toF).toO (((jd_var rfl)).toF).toO))) (fun ⟨v_number, v_cord⟩ => ((jd_var rfl)).toF))).toF).toO) ja_nil)) (by decide)))))
theorem br_cut_off (v_house v_cords : PyData) (C : CS) (r : PyData) (h : p_cut_off v_house v_cords = some r) : m_cut_off [.d v_house, .d v_cords] C = some (.d r, C) := br_run (n := 2) (m := 6) (body := b_cut_off) (args := [v_house, v_cords]) (A := [some (.dat v_house), some (.dat v_cords), none, none, none, none]) (os := q_cut_off v_house v_cords) rfl rfl (fun B => jb_cut_off v_house v_cords B) (by unfold p_cut_off at h; exact h)
noncomputable def b_without : DS := (dSeq (dDrop (dFz (dCall Pg.m_need_house (dCons (dVar 0) dNil))))
    (dSeq (dIfS (dTidyT (dNot (dTest (dCall m_is_pick (dCons (dVar 1) (dCons (dCall (gLook fLen) (dCons (dOp gIx (dVar 0) (dC (.int 1))) dNil)) dNil)))))) dNever dNext)
    (dRet (dCall m_cut_off (dCons (dVar 0) (dCons (dVar 1) dNil))))))
noncomputable def m_without : DF := runF 2 2 b_without
noncomputable def q_without (v_house v_cords : PyData) : Option (Step Unit) :=
    (((((some v_house)).bind fun a7_0 => Pg.p_need_house a7_0)).bind fun _ =>
    (pIf (pNot (((((some v_cords)).bind fun a9_0 => ((((((some v_house)).bind fun x => ((some (PyData.int 1))).bind fun y => pIx x y)).bind (pLook fLen))).bind fun a9_1 => p_is_pick a9_0 a9_1)).bind asB)) none
    (((((some v_house)).bind fun a11_0 => ((some v_cords)).bind fun a11_1 => p_cut_off a11_0 a11_1)).bind fun x => some (.inr x))))
@[irreducible] noncomputable def p_without (v_house v_cords : PyData) : Option PyData := pRun (q_without v_house v_cords)
theorem jb_without (v_house v_cords : PyData) (B : FB) : JB B [some (.dat v_house), some (.dat v_cords)] b_without (fun _ : Unit => ([none, none] : AE)) (q_without v_house v_cords) := by
  unfold q_without b_without
  exact (jb_drop ((jd_call (P := (fun xs => match xs with | [b6_0] => Pg.p_need_house b6_0 | _ => none)) (ja_cons (jd_var rfl) ja_nil) (fun xs C r hl hp => match xs, hl, hp with | [b6_0], _, hp => Pg.br_need_house b6_0 C r hp))).toF (jb_ifr (jt_not (jt_test (jd_call (P := (fun xs => match xs with | [b8_0, b8_1] => p_is_pick b8_0 b8_1 | _ => none)) (ja_cons (jd_var rfl) (ja_cons (jd_call1 f1_look (((jd_op opd_ix (((jd_var rfl)).toF).toO ((jd_c).toF).toO)).toF).toO) ja_nil)) (fun xs C r hl hp => match xs, hl, hp with | [b8_0, b8_1], _, hp => br_is_pick b8_0 b8_1 C r hp)))) jb_never nn_none (jb_ret (jd_call (P := (fun xs => match xs with | [b10_0, b10_1] => p_cut_off b10_0 b10_1 | _ => none)) (ja_cons (jd_var rfl) (ja_cons (jd_var rfl) ja_nil)) (fun xs C r hl hp => match xs, hl, hp with | [b10_0, b10_1], _, hp => br_cut_off b10_0 b10_1 C r hp)))))
theorem br_without (v_house v_cords : PyData) (C : CS) (r : PyData) (h : p_without v_house v_cords = some r) : m_without [.d v_house, .d v_cords] C = some (.d r, C) := br_run (n := 2) (m := 2) (body := b_without) (args := [v_house, v_cords]) (A := [some (.dat v_house), some (.dat v_cords)]) (os := q_without v_house v_cords) rfl rfl (fun B => jb_without v_house v_cords B) (by unfold p_without at h; exact h)
end Pg
set_option Elab.async false
set_option linter.all false
set_option maxRecDepth 100000
set_option maxHeartbeats 4000000
namespace Pg
open PySem PySem.Spec PyProof.Rows L2 Dn
noncomputable def q_is_whole_or_none (v_thing : PyData) : Option (Step Unit) :=
    (((pIf (((((some v_thing)).bind fun x => ((some PyData.none)).bind fun y => pIs x y)).bind asB) (some (.bool true)) (((some v_thing)).bind fun a8_0 => Pg.p_is_whole a8_0))).bind fun x => some (.inr x))
@[irreducible] noncomputable def p_is_whole_or_none (v_thing : PyData) : Option PyData := pRun (q_is_whole_or_none v_thing)
end Pg
set_option Elab.async false
set_option linter.all false
set_option maxRecDepth 100000
set_option maxHeartbeats 4000000
namespace Pg
open PySem PySem.Spec PyProof.Rows L2 Dn
end Pg
set_option Elab.async false
set_option linter.all false
set_option maxRecDepth 100000
namespace Dn
open PySem PySem.Spec PyProof.Rows L2
/-! ### reckoning on data alone -/
section
variable {σ τ : Type} {o : Option (Step σ)} {f : σ → Option (Step τ)} {P : Step τ → Prop}
def stepP (f : σ → Option (Step τ)) (P : Step τ → Prop) : Step σ → Prop
  | .inl st => Wo (f st) P
  | .inr x => P (.inr x)
@[simp] theorem stepP_inl {st : σ} : stepP f P (.inl st) ↔ Wo (f st) P := Iff.rfl
@[simp] theorem stepP_inr {x : PyData} : stepP f P (.inr x) ↔ P (.inr x) := Iff.rfl
@[simp] theorem wo_stepBind : Wo (stepBind o f) P ↔ Wo o (stepP f P) := by
  unfold stepBind
  rw [wo_bind]
  refine exists_congr fun r => and_congr_right fun _ => ?_
  cases r <;> simp
def runP {σ : Type} (P : PyData → Prop) : Step σ → Prop
  | .inl _ => P .none
  | .inr x => P x
@[simp] theorem runP_inl {st : σ} {P : PyData → Prop} : runP P (.inl st : Step σ) ↔ P .none := Iff.rfl
@[simp] theorem runP_inr {x : PyData} {P : PyData → Prop} : runP P (.inr x : Step σ) ↔ P x := Iff.rfl
@[simp] theorem wo_pRun {P : PyData → Prop} : Wo (pRun o) P ↔ Wo o (runP P) := by
  unfold pRun
  rw [wo_map]
  refine exists_congr fun r => and_congr_right fun _ => ?_
  cases r <;> rfl
@[simp] theorem wo_pIf {α : Type} {t : Option Bool} {a b : Option α} {P : α → Prop} : Wo (pIf t a b) P ↔ Wo t fun c => if c = true then Wo a P else Wo b P := by
  unfold pIf
  simp
/-- a for that may end early with one answer -/
theorem wo_for_ret {g : PyData → σ → Option (Step σ)} {P : Step σ → Prop} (J : List PyData → σ → Prop) (h : ∀ x xs st, J (x :: xs) st → Wo (g x st) fun r => (∃ st', r = .inl st' ∧ J xs st') ∨ ∃ y, r = .inr y ∧ P (.inr y)) (k : ∀ st, J [] st → P (.inl st)) : ∀ {xs : List PyData} {st : σ}, J xs st → Wo (pFor g xs st) P
  | [], st, j => by simpa using k st j
  | x :: xs, st, j => by
    rw [pFor_cons, wo_stepBind]
    obtain ⟨r, e, h' | ⟨y, rfl, hy⟩⟩ := h x xs st j
    · obtain ⟨st', rfl, j'⟩ := h'
      exact ⟨_, e, wo_for_ret J h k j'⟩
    · exact ⟨_, e, hy⟩
end
/-! maps -/
theorem pMap_eq {α : Type} {enc : α → PyData} {f : PyData → Option PyData} {F : α → PyData} {xs : List α} (h : ∀ x ∈ xs, f (enc x) = some (F x)) (hl : xs.length ≤ 10000) : pMap f (xs.map enc) = some (xs.map F) := by
  unfold pMap
  rw [if_pos (by simpa using hl)]
  clear hl
  induction xs with
  | nil => rfl
  | cons x xs ih =>
    rw [List.map_cons, List.mapM_cons, h x List.mem_cons_self, ih fun y hy => h y (List.mem_cons_of_mem _ hy)]
    rfl
theorem pSel_eq {α : Type} {enc : α → PyData} {f : PyData → Option (Option PyData)} {F : α → Option PyData} {xs : List α} (h : ∀ x ∈ xs, f (enc x) = some (F x)) : pSel f (xs.map enc) = some (xs.filterMap F) := by
  induction xs with
  | nil => rfl
  | cons x xs ih =>
    rw [List.map_cons, pSel, h x List.mem_cons_self, ih fun y hy => h y (List.mem_cons_of_mem _ hy)]
    cases hF : F x <;> simp [hF]
theorem pFil_eq {α : Type} {enc : α → PyData} {f : PyData → Option (Option PyData)} {F : α → Option PyData} {xs : List α} (h : ∀ x ∈ xs, f (enc x) = some (F x)) (hl : xs.length ≤ 10000) : pFil f (xs.map enc) = some (xs.filterMap F) := by
  unfold pFil
  rw [if_pos (by simpa using hl), pSel_eq h]
theorem pFlat_eq {α : Type} {enc : α → PyData} {f : PyData → Option (List PyData)} {F : α → List PyData} {xs : List α} (h : ∀ x ∈ xs, f (enc x) = some (F x)) : pFlat f (xs.map enc) = some (xs.map F).flatten := by
  induction xs with
  | nil => rfl
  | cons x xs ih =>
    rw [List.map_cons, pFlat, h x List.mem_cons_self, ih fun y hy => h y (List.mem_cons_of_mem _ hy)]
    rfl
/-- the numbers of a list's places -/
theorem pairs_map {α : Type} {enc : α → PyData} {xs : List α} : pairs (xs.map enc) = xs.zipIdx.map fun p => .tuple [.int (p.2 : Nat), enc p.1] := by
  unfold pairs
  rw [List.zipIdx_map, List.map_map]
  rfl
/-! what is told of numbers -/
theorem fAll_bools {α : Type} {f : α → Bool} {xs : List α} : pLook fAll (.list (xs.map fun x => .bool (f x))) = some (.bool (xs.all f)) := by
  unfold pLook fAll
  simp only [blsOf_map]
  simp [flat, List.all_map, List.any_map, Function.comp_def]
/-! ### sorted -/
theorem dle_iff {a b : PyData} : PySem.W.dataLe false id a b = true ↔ dLt b a = false := by
  show (!PySem.W.dataLt b a) = true ↔ _
  simp
theorem dlt_irr {a : PyData} : dLt a a = false := lex_irrefl _
theorem dlt_neg {a b c : PyData} (h : dLt a c = true) : dLt a b = true ∨ dLt b c = true := lex_negTrans _ _ _ h
theorem dlt_tr {a b c : PyData} (h : dLt a b = true) (k : dLt b c = true) : dLt a c = true := lex_trans _ _ _ h k
theorem dlt_asym {a b : PyData} (h : dLt a b = true) : dLt b a = false := by
  cases e : dLt b a with
  | false => rfl
  | true => rw [← dlt_tr h e]; exact (dlt_irr).symm ▸ rfl
theorem srt_pair {xs : List PyData} : (srt xs).Pairwise fun a b => dLt b a = false := by
  have := List.pairwise_mergeSort (le := PySem.W.dataLe false id) (fun a b c h1 h2 => by
    rw [dle_iff] at *
    cases e : dLt c a with
    | false => rfl
    | true =>
      rcases dlt_neg (b := b) e with h | h
      · rw [h] at h2; cases h2
      · rw [h] at h1; cases h1) (fun a b => by
    cases e : dLt b a with
    | false => rw [dle_iff.mpr e]; rfl
    | true => rw [Bool.or_comm, dle_iff.mpr (dlt_asym e)]; rfl) xs
  exact this.imp fun h => dle_iff.mp h
/-- by the first number alone -/
theorem dlt_fst {a b : Int} {xs ys : List PyData} (h : a < b) : dLt (.tuple (.int a :: xs)) (.tuple (.int b :: ys)) = true := by
  show PyProof.Rows.lexLt _ _ _ = true
  simp only [PySem.W.keyToks, PySem.W.keyToksAll, List.cons_append, List.nil_append]
  rw [lex_self, lex_diff (by simp; omega), blt_int]
  simp [h]
end Dn
set_option linter.all false
namespace Bn
section
variable {ts : List Int} {cs : List Cord} {ls : List Lgt} {T : Tales}
theorem IsTales.ember (m : IsTales ts cs ls T) {x : Int} (x0 : 0 ≤ x) (x1 : x < ts.length) {s : Setg} (hs : s ∈ taleAt T x) : ∃ e, Ember ts cs ls T x e ∧ s = setOf e := by
  obtain ⟨e, h, k, _⟩ := (m.made x x0 x1).made s hs
  exact ⟨e, h, k⟩
theorem countP_lt {p q : Setg → Bool} : ∀ {l : List Setg}, (∀ s ∈ l, p s = true → q s = true) → (∃ s ∈ l, q s = true ∧ p s = false) → l.countP p < l.countP q
  | [], _, h => by obtain ⟨s, hs, _⟩ := h; simp at hs
  | a :: l, hpq, h => by
    have hle : l.countP p ≤ l.countP q := List.countP_mono_left fun s hs => hpq s (by simp [hs])
    obtain ⟨s, hs, h1, h2⟩ := h
    rw [List.countP_cons, List.countP_cons]
    rcases List.mem_cons.mp hs with rfl | hs
    · rw [h1, h2]
      simp
      omega
    · have := countP_lt (l := l) (fun s hs => hpq s (by simp [hs])) ⟨s, hs, h1, h2⟩
      have h3 := hpq a (by simp)
      cases hp : p a
      · simp
        omega
      · rw [h3 hp]
        simp
        exact this
def before (T : Tales) (b : Int) : Nat := T.flatten.countP fun s => decide (s.1 < b)
theorem mem_flat {x : Int} {s : Setg} (hs : s ∈ taleAt T x) : s ∈ T.flatten := by
  unfold taleAt at hs
  rw [List.getD_eq_getElem?_getD] at hs
  cases hg : T[x.toNat]? with
  | none => simp [hg] at hs
  | some t =>
    rw [hg] at hs
    exact List.mem_flatten.mpr ⟨t, List.mem_of_getElem? hg, hs⟩
theorem IsTales.beat (h : HouseOk ts cs) (m : IsTales ts cs ls T) (ht : ∀ t ∈ ts, t ≤ 1000000) (hb : ∀ c ∈ cs, c.lng ≤ 1000000) (hl : ∀ l ∈ ls, l.2 ≤ 1000000) : ∀ (k : Nat) (x : Int) (s : Setg), before T s.1 = k → 0 ≤ x → x < ts.length → s ∈ taleAt T x → s.1 ≤ 1000000 + 2000000 * k := by
  intro k
  induction k using Nat.strongRecOn with
  | _ k ih =>
    intro x s hk x0 x1 hs
    obtain ⟨e, he, rfl⟩ := m.ember x0 x1 hs
    rw [setOf_beat] at hk ⊢
    rcases he with ⟨l, hlm, _, rfl⟩ | ⟨i, c, hc, rfl, hf, h1, h2⟩
    · have := hl l hlm
      simp only
      omega
    · have hcm := List.mem_of_getElem? hc
      have ck := h.cord c hcm
      have c1 := ck.one0
      have c2 := ck.one1
      have c3 := ck.lng
      have c4 := hb c hcm
      have c5 := ck.at0
      obtain ⟨s', hs', h3, h4, h5⟩ := flame_from ck.at0 hf
      have hlt : before T s'.1 < before T e.1 := countP_lt (fun r _ hr => by simp at hr ⊢; omega) ⟨s', mem_flat hs', by simp; omega, by simp⟩
      have h6 := ih _ (by omega) c.one s' rfl c1 c2 hs'
      have h7 : s'.2.1 ≤ 1000000 := by
        obtain ⟨e', he', rfl⟩ := m.ember c1 c2 hs'
        rw [setOf_high]
        have top : ∀ y : Int, 0 ≤ y → y < ts.length → topOf ts y ≤ 1000000 := fun y y0 y1 => by
          unfold topOf
          rw [List.getD_eq_getElem?_getD, List.getElem?_eq_getElem (by omega)]
          exact ht _ (List.getElem_mem _)
        rcases he' with ⟨l, _, _, rfl⟩ | ⟨j, d, hd, _, _, h8, _⟩
        · exact top _ c1 c2
        · have dk := h.cord d (List.mem_of_getElem? hd)
          have := top _ dk.oth0 dk.oth1
          have := dk.to1
          omega
      omega
end
end Bn
set_option linter.all false
namespace Bn
section
variable {ts : List Int} {cs : List Cord} {ls : List Lgt} {T : Tales}
theorem IsTales.high (h : HouseOk ts cs) (m : IsTales ts cs ls T) {x : Int} (x0 : 0 ≤ x) (x1 : x < ts.length) : ∀ s ∈ taleAt T x, s.2.1 ≤ topOf ts x := fun s hs => by
  obtain ⟨e, he, rfl⟩ := m.ember x0 x1 hs
  rw [setOf_high]
  rcases he with ⟨l, _, _, rfl⟩ | ⟨i, c, hc, rfl, _, h1, _⟩
  · exact Int.le_refl _
  · rw [h1]
    exact (h.cord c (List.mem_of_getElem? hc)).to1
end
end Bn
set_option Elab.async false
set_option linter.all false
set_option maxRecDepth 100000
namespace Pg
open PySem PySem.Spec PyProof.Rows L2 Dn
section
variable {ts : List Int} {cs : List Cord} {ls : List Lgt} {t : List Setg} {b x : Int}
theorem wIn_int {i lo hi : Int} : wIn (.int i) lo hi = decide (lo ≤ i ∧ i ≤ hi) := by
  simp [wIn]
@[simp] theorem pU3_setD {s : Setg} : pU3 (setD s) = some (.int s.1, .int s.2.1, optD s.2.2) := rfl
@[simp] theorem pU5_cordD {c : Cord} : pU5 (cordD c) = some (.int c.1, .int c.2.1, .int c.2.2.1, .int c.2.2.2.1, .int c.2.2.2.2) := rfl
@[simp] theorem pU2_lgtD {l : Lgt} : pU2 (lgtD l) = some (.int l.1, .int l.2) := rfl
@[simp] theorem pIx_houseD0 : pIx (houseD ts cs) (.int 0) = some (.tuple (ts.map .int)) := rfl
@[simp] theorem pIx_houseD1 : pIx (houseD ts cs) (.int 1) = some (.tuple (cs.map cordD)) := rfl
@[simp] theorem pU2_houseD : pU2 (houseD ts cs) = some (.tuple (ts.map .int), .tuple (cs.map cordD)) := rfl
@[simp] theorem pIx_setD0 {s : Setg} : pIx (setD s) (.int 0) = some (.int s.1) := rfl
@[simp] theorem pIx_setD1 {s : Setg} : pIx (setD s) (.int 1) = some (.int s.2.1) := rfl
@[simp] theorem pIx_setD2 {s : Setg} : pIx (setD s) (.int 2) = some (optD s.2.2) := rfl
@[simp] theorem pIx_lgtD0 {s : Lgt} : pIx (lgtD s) (.int 0) = some (.int s.1) := rfl
@[simp] theorem pIx_lgtD1 {s : Lgt} : pIx (lgtD s) (.int 1) = some (.int s.2) := rfl
@[simp] theorem pIx_cordD0 {c : Cord} : pIx (cordD c) (.int 0) = some (.int c.1) := rfl
@[simp] theorem pIx_cordD1 {c : Cord} : pIx (cordD c) (.int 1) = some (.int c.2.1) := rfl
@[simp] theorem pIx_cordD2 {c : Cord} : pIx (cordD c) (.int 2) = some (.int c.2.2.1) := rfl
@[simp] theorem pIx_cordD3 {c : Cord} : pIx (cordD c) (.int 3) = some (.int c.2.2.2.1) := rfl
@[simp] theorem pIx_cordD4 {c : Cord} : pIx (cordD c) (.int 4) = some (.int c.2.2.2.2) := rfl
@[simp] theorem pIx_toldD0 {T : List (List Setg)} : pIx (toldD cs T) (.int 0) = some (talesD T) := rfl
@[simp] theorem pIx_toldD1 {T : List (List Setg)} : pIx (toldD cs T) (.int 1) = some (catchesD (catchesOf cs T)) := rfl
@[simp] theorem pU2_toldD {T : List (List Setg)} : pU2 (toldD cs T) = some (talesD T, catchesD (catchesOf cs T)) := rfl
theorem need_candle_eq (h : Hs ts cs) (x0 : 0 ≤ x) (x1 : x < ts.length) : p_need_candle (houseD ts cs) (.int x) = some .none := by
  unfold p_need_candle q_need_candle
  have : (0 ≤ x ∧ x ≤ (ts.length : Int) - 1) := by omega
  simp [is_candle_eq h, wIn_int, this]
theorem at_tales (h : Hs ts cs) (l : Ls ts ls) (x0 : 0 ≤ x) (x1 : x < ts.length) : L2.atI ((tales ts cs ls).map taleD) x = some (taleD (Bn.taleAt (tales ts cs ls) x)) := tale_at x0 (by rw [tales_len h l]; exact x1)
end
end Pg
/-! The flame of a candle along its tale. -/
namespace Bn
theorem Wf.next {u t : List Setg} {s r : Setg} (w : Wf (u ++ s :: r :: t)) : s.1 < r.1 ∧ r.2.1 < s.2.1 - (r.1 - s.1) ∧ 1 ≤ r.2.1 ∧ 1 ≤ s.2.1 := by
  have hs := w.high s (by simp)
  have hr := w.high r (by simp)
  have drop : ∀ (u : List Setg) (x : List Setg), Wf (u ++ x) → Wf x := by
    intro u
    induction u with
    | nil => intro x h; exact h
    | cons a u ih => intro x h; exact ih x h.tail.1
  have h := (drop u _ w).tail.2 r rfl
  exact ⟨h.1, h.2, hr, hs⟩
end Bn
set_option linter.all false
namespace Bn
/-! ### a table by hand: the embers, reckoned from the table itself -/
def embs (ts : List Int) (cs : List Cord) (ls : List Lgt) (T : Tales) (x : Int) : List Emb :=
  (ls.filterMap fun l => if l.1 = x then some (l.2, topOf ts x, -1) else none) ++ (cs.zipIdx.filterMap fun p => if p.1.oth = x then (catchOf (taleAt T p.1.one) p.1.at_).map fun b => (b + p.1.lng, p.1.to, (p.2 : Int)) else none)
theorem mem_embs {ts : List Int} {cs : List Cord} {ls : List Lgt} {T : Tales} {x : Int} {e : Emb} (h : HouseOk ts cs) (w : ∀ y : Int, 0 ≤ y → y < ts.length → Wf (taleAt T y)) : e ∈ embs ts cs ls T x ↔ Ember ts cs ls T x e := by
  unfold embs Ember
  rw [List.mem_append, List.mem_filterMap, List.mem_filterMap]
  refine or_congr ⟨?_, ?_⟩ ⟨?_, ?_⟩
  · rintro ⟨l, hl, h1⟩
    split at h1
    · rename_i h2
      exact ⟨l, hl, h2, by cases h1; rfl⟩
    · cases h1
  · rintro ⟨l, hl, h2, rfl⟩
    exact ⟨l, hl, by rw [if_pos h2]⟩
  · rintro ⟨⟨c, i⟩, hc, h1⟩
    obtain ⟨hi, h3⟩ := List.mem_zipIdx' hc
    split at h1
    · rename_i h2
      obtain ⟨b, h4, rfl⟩ := Option.map_eq_some_iff.mp h1
      have hm : c ∈ cs := h3 ▸ List.getElem_mem _
      have ck := h.cord c hm
      refine ⟨i, c, by rw [List.getElem?_eq_getElem hi, ← h3], h2, ?_, rfl, rfl⟩
      rw [show b + c.lng - c.lng = b by omega]
      exact ((w _ ck.one0 ck.one1).catch_iff ck.at0).mp h4
    · cases h1
  · rintro ⟨i, c, hc, h2, h4, h5, h6⟩
    obtain ⟨hi, h3⟩ := List.getElem?_eq_some_iff.mp hc
    have hm : c ∈ cs := h3 ▸ List.getElem_mem _
    have ck := h.cord c hm
    refine ⟨(c, i), ?_, ?_⟩
    · rw [List.mem_zipIdx_iff_getElem?]
      exact hc
    · have h7 : catchOf (taleAt T c.one) c.at_ = some (e.1 - c.lng) := ((w _ ck.one0 ck.one1).catch_iff ck.at0).mpr h4
      show (if c.oth = x then _ else none) = _
      rw [if_pos h2, h7]
      obtain ⟨e1, e2, e3⟩ := e
      simp only at h5 h6
      subst h5 h6
      show some (e1 - c.lng + c.lng, _, _) = _
      rw [show e1 - c.lng + c.lng = e1 by omega]
theorem isTales_by {ts : List Int} {cs : List Cord} {ls : List Lgt} {T : Tales} (h : HouseOk ts cs) (es : Int → List Emb) (hl : T.length = ts.length) (hx : ∀ x : Int, 0 ≤ x → x < ts.length → taleAt T x = taleOf (es x) ∧ (∀ e ∈ es x, 1 ≤ e.2.1) ∧ (es x).Pairwise eLe ∧ ∀ e, e ∈ embs ts cs ls T x ↔ e ∈ es x) : IsTales ts cs ls T := by
  have hm : ∀ x : Int, 0 ≤ x → x < ts.length → Made (fun e => e ∈ es x) (taleAt T x) := fun x x0 x1 => by
    obtain ⟨h1, h2, h3, _⟩ := hx x x0 x1
    rw [h1]
    exact made_of h2 h3
  refine ⟨hl, fun x x0 x1 => (hm x x0 x1).congr fun e => ?_⟩
  rw [← (hx x x0 x1).2.2.2 e]
  exact mem_embs h fun y y0 y1 => (hm y y0 y1).wf
end Bn
set_option Elab.async false
set_option linter.all false
set_option maxRecDepth 100000
set_option maxHeartbeats 1000000
namespace Dn
open PySem PySem.Spec PyProof.Rows L2
abbrev Emb3 := Int × Int × Int
def lt3 (a b : Emb3) : Bool := decide (a.1 < b.1 ∨ (a.1 = b.1 ∧ (a.2.1 < b.2.1 ∨ (a.2.1 = b.2.1 ∧ a.2.2 < b.2.2))))
def le3 (a b : Emb3) : Bool := !lt3 b a
theorem le3_iff {a b : Emb3} : le3 a b = true ↔ Bn.eLe a b := by
  unfold le3 lt3 Bn.eLe
  simp
  omega
/-- embers in their order -/
def sortE (es : List Emb3) : List Emb3 := es.mergeSort le3
theorem sortE_perm {es : List Emb3} : (sortE es).Perm es := List.mergeSort_perm _ _
theorem sortE_pair {es : List Emb3} : (sortE es).Pairwise Bn.eLe := by
  have := List.pairwise_mergeSort (le := le3) (fun a b c h1 h2 => by rw [le3_iff] at *; unfold Bn.eLe at *; omega) (fun a b => by
    rw [Bool.or_eq_true, le3_iff, le3_iff]; unfold Bn.eLe; omega) es
  exact this.imp fun h => le3_iff.mp h
end Dn
namespace Bn
/-- the tale of these embers, sorted, is that of the table -/
theorem tale_back {ts : List Int} {cs : List Cord} {ls : List Lgt} {T : Tales} {x : Int} (h : HouseOk ts cs) (hl : LightsOk ts ls) (m : IsTales ts cs ls T) (x0 : 0 ≤ x) (x1 : x < ts.length) : taleOf (Dn.sortE (embs ts cs ls T x)) = taleAt T x := by
  have mx := m.made x x0 x1
  have hm : ∀ e, e ∈ Dn.sortE (embs ts cs ls T x) ↔ Ember ts cs ls T x e := fun e => by
    rw [Dn.sortE_perm.mem_iff]
    exact mem_embs h fun y y0 y1 => (m.made y y0 y1).wf
  have h1 : ∀ e ∈ Dn.sortE (embs ts cs ls T x), 1 ≤ e.2.1 := fun e he => by
    rcases (hm e).mp he with ⟨l, hlm, rfl, rfl⟩ | ⟨i, c, hc, _, _, h2, _⟩
    · have := h.top (topOf ts l.1) (by
        unfold topOf
        rw [List.getD_eq_getElem?_getD, List.getElem?_eq_getElem (by omega)]
        exact List.getElem_mem _)
      exact this
    · rw [h2]
      exact (h.cord c (List.mem_of_getElem? hc)).to0
  have m2 := (made_of h1 Dn.sortE_pair).congr hm
  exact m2.uniq mx
end Bn
namespace Pg
open PySem PySem.Spec PyProof.Rows L2 Dn
section
variable {ts : List Int} {cs : List Cord} {ls : List Lgt} {x : Int} {C : CS} {P : SV × CS → Prop}
def decK (x : PyData) : List (Option Int) := (elems x).map optOf
@[simp] theorem decK_eq {ks : List (Option Int)} : decK (catchesD ks) = ks := map_id' optOf_eq ks
end
end Pg
set_option Elab.async false
set_option linter.all false
set_option maxRecDepth 100000
set_option maxHeartbeats 4000000
namespace Pg
open PySem PySem.Spec PyProof.Rows L2 Dn
end Pg
set_option Elab.async false
set_option linter.all false
set_option maxRecDepth 100000
namespace Pg
open PySem PySem.Spec PyProof.Rows L2 Dn
/-! ### pieces -/
abbrev Pce := Int × Int × Str
def pieceD (p : Pce) : PyData := .tuple [.int p.1, .int p.2.1, .str p.2.2]
/-- what is left of a flame when the next one comes -/
def restOf (s : Setg) (t : List Setg) : Int := match t with
  | [] => 0
  | r :: _ => s.2.1 - (r.1 - s.1)
/-- the pieces from above, in the order in which they burn and fall -/
def pcs (left : Int) : List Setg → List Pce
  | [] => []
  | s :: t => (if s.2.1 < left then [(s.2.1 + 1, left, ("fallen" : Str))] else []) ++ (restOf s t + 1, s.2.1, ("burnt" : Str)) :: pcs (restOf s t) t
@[simp] theorem pU_numSet {a : PyData} {s : Setg} : pU_LnLnnnRR (.tuple [a, setD s]) = some (a, .int s.1, .int s.2.1, optD s.2.2) := rfl
end Pg
set_option Elab.async false
set_option linter.all false
set_option maxRecDepth 100000
namespace Dn
open PySem PySem.Spec PyProof.Rows L2
theorem srt_map {α : Type} {e : α → PyData} {xs : List α} : ∃ qs : List α, srt (xs.map e) = qs.map e ∧ qs.Perm xs := by
  have := List.map_mergeSort (r := fun a b => PySem.W.dataLe false id (e a) (e b)) (s := PySem.W.dataLe false id) (f := e) (l := xs) fun a _ b _ => rfl
  exact ⟨_, this.symm, List.mergeSort_perm _ _⟩
@[simp] theorem pEq_str {a b : Str} : pEq (.str a) (.str b) = some (.bool (decide (a = b))) := by simp [pEq]
@[simp] theorem pNe_str {a b : Str} : pNe (.str a) (.str b) = some (.bool !(decide (a = b))) := by simp [pNe]
end Dn
namespace Pg
open PySem PySem.Spec PyProof.Rows L2 Dn
section
variable {ts : List Int} {cs : List Cord} {ls : List Lgt} {t : List Setg} {b x : Int}
noncomputable def rowP (top : Int) (t : List Setg) : List Pce := if t = [] then [(1, top, ("whole" : Str))] else (pcs top t).mergeSort fun a b => PySem.W.dataLe false id (pieceD a) (pieceD b)
noncomputable def rows (ts : List Int) (T : List (List Setg)) : List (List Pce) := (ts.zip T).map fun p => rowP p.1 p.2
end
end Pg
set_option Elab.async false
set_option linter.all false
set_option maxRecDepth 100000
namespace Dn
open PySem PySem.Spec PyProof.Rows L2
/-! ### the most and the least of numbers -/
theorem eqv_opt {a b : Option Int} : fits (optD a) (optD b) = true ∧ PyData.eqv (optD a) (optD b) = decide (a = b) := by
  cases a <;> cases b <;> simp [optD, fits, PyData.plain, PyData.depth, PyData.eqv, Bool.beq_eq_decide_eq]
@[simp] theorem pEq_opt {a b : Option Int} : pEq (optD a) (optD b) = some (.bool (decide (a = b))) := by simp [pEq, eqv_opt]
@[simp] theorem pNe_opt {a b : Option Int} : pNe (optD a) (optD b) = some (.bool !(decide (a = b))) := by simp [pNe, eqv_opt]
theorem fits_lists (a b : List Int) : fits (.list (a.map .int)) (.list (b.map .int)) = true ∧ PyData.eqv (.list (a.map .int)) (.list (b.map .int)) = decide (a = b) := by
  have p : ∀ {ns : List Int}, PyData.plainAll (ns.map PyData.int) = true := by
    intro ns
    induction ns with
    | nil => rfl
    | cons n ns ih => simp [PyData.plainAll, PyData.plain, ih]
  have d : ∀ {ns : List Int}, PyData.depthAll (ns.map PyData.int) ≤ 1 := by
    intro ns
    induction ns with
    | nil => simp [PyData.depthAll]
    | cons n ns ih => simp only [List.map_cons, PyData.depthAll, PyData.depth]; omega
  constructor
  · have := d (ns := a)
    simp [fits, PyData.plain, PyData.depth, p]
    omega
  · simp only [PyData.eqv]
    induction a generalizing b with
    | nil => cases b <;> simp [PyData.eqvAll]
    | cons x a ih => cases b with
      | nil => simp [PyData.eqvAll]
      | cons y b =>
        simp only [List.map_cons, PyData.eqvAll, ih b, PyData.eqv, List.cons.injEq]
        by_cases h : x = y <;> simp [h]
@[simp] theorem pEq_lints {a b : List Int} : pEq (.list (a.map .int)) (.list (b.map .int)) = some (.bool (decide (a = b))) := by simp [pEq, fits_lists]
theorem eqv_empty_t {xs : List PyData} (h : PyData.hasDict (.tuple xs) = false) : pEq (.tuple xs) (.tuple []) = some (.bool xs.isEmpty) ∧ pNe (.tuple xs) (.tuple []) = some (.bool !xs.isEmpty) := by
  simp [pEq, pNe, eq_empty h]
@[simp] theorem atI_zero {x : PyData} {xs : List PyData} : L2.atI (x :: xs) 0 = some x := L2.atI_nat (j := 0) rfl
@[simp] theorem atI_one {x y : PyData} {xs : List PyData} : L2.atI (x :: y :: xs) 1 = some y := L2.atI_nat (j := 1) rfl
@[simp] theorem atI_two {x y z : PyData} {xs : List PyData} : L2.atI (x :: y :: z :: xs) 2 = some z := L2.atI_nat (j := 2) rfl
end Dn
namespace Pg
open PySem PySem.Spec PyProof.Rows L2 Dn
section
variable {ts : List Int} {cs : List Cord} {ls : List Lgt} {t : List Setg} {b x : Int}
theorem Ls.beat (l : Ls ts ls) : ∀ q ∈ ls, q.2 ≤ 1000000 := fun q hq => (l.lits.ok q hq).2.2.2
/-! ### from when to when flames burn -/
end
end Pg
set_option Elab.async false
set_option linter.all false
set_option maxRecDepth 100000
namespace Dn
open PySem PySem.Spec PyProof.Rows L2
/-! ### data that compare: plain, and not deep -/
def Flt (n : Nat) (x : PyData) : Prop := x.plain = true ∧ x.depth ≤ n
section
variable {n m : Nat} {x y : PyData} {xs ys : List PyData}
theorem Flt.up (h : Flt n x) (k : n ≤ m) : Flt m x := ⟨h.1, Nat.le_trans h.2 k⟩
theorem flt_bool {i : Bool} : Flt n (.bool i) := ⟨rfl, by simp [PyData.depth]⟩
theorem Flt.fits (h : Flt n x) (k : Flt m y) (hm : n ≤ 64 ∨ m ≤ 64) : Dn.fits x y = true := by
  unfold Dn.fits
  rw [h.1, k.1]
  have := h.2
  have := k.2
  simp
  left
  omega
theorem pEq_flt (h : Flt n x) (k : Flt m y) (hm : n ≤ 64 ∨ m ≤ 64) : pEq x y = some (.bool (PyData.eqv x y)) := by simp [pEq, h.fits k hm]
theorem pNe_flt (h : Flt n x) (k : Flt m y) (hm : n ≤ 64 ∨ m ≤ 64) : pNe x y = some (.bool !(PyData.eqv x y)) := by simp [pNe, h.fits k hm]
@[simp] theorem pEq_bool {a b : Bool} : pEq (.bool a) (.bool b) = some (.bool (decide (a = b))) := by
  rw [pEq_flt (n := 0) (m := 0) flt_bool flt_bool (.inl (by omega))]
  simp [PyData.eqv, Bool.beq_eq_decide_eq]
@[simp] theorem pNe_bool {a b : Bool} : pNe (.bool a) (.bool b) = some (.bool !(decide (a = b))) := by
  rw [pNe_flt (n := 0) (m := 0) flt_bool flt_bool (.inl (by omega))]
  simp [PyData.eqv, Bool.beq_eq_decide_eq]
end
end Dn
set_option Elab.async false
set_option linter.all false
set_option maxRecDepth 100000
set_option maxHeartbeats 1000000
namespace Pg
open PySem PySem.Spec PyProof.Rows L2 Dn
section
variable {ts : List Int} {cs : List Cord} {ls : List Lgt} {x : Int} {T : List (List Setg)} {ks : List (Option Int)}
@[simp] theorem won_eq {k : Option Int} : p_is_whole_or_none (optD k) = some (.bool true) := by
  unfold p_is_whole_or_none q_is_whole_or_none
  cases k <;> simp [optD, pIs, isV, noneD, pIf]
theorem all_true {α : Type} {xs : List α} : pLook fAll (.list (xs.map fun _ => PyData.bool true)) = some (.bool true) := by
  have := fAll_bools (f := fun _ : α => true) (xs := xs)
  rw [this]
  congr 2
  exact List.all_eq_true.mpr fun _ _ => rfl
end
end Pg
set_option Elab.async false
set_option linter.all false
set_option maxRecDepth 100000
set_option maxHeartbeats 1000000
namespace Pg
open PySem PySem.Spec PyProof.Rows L2 Dn
end Pg
set_option Elab.async false
set_option linter.all false
set_option maxRecDepth 100000
namespace Pg
open PySem PySem.Spec PyProof.Rows L2 Dn
/-! ### the pieces of a candle, and where they lie -/
section
variable {t : List Setg} {s : Setg} {left top a b : Int}
def holds (a : Int) (p : Pce) : Bool := decide (p.1 ≤ a ∧ a ≤ p.2.1)
end
end Pg
set_option Elab.async false
set_option linter.all false
set_option maxRecDepth 100000
set_option maxHeartbeats 1000000
namespace Dn
open PySem PySem.Spec PyProof.Rows L2
/-- numbers, rising -/
def sortI (ns : List Int) : List Int := ns.mergeSort fun a b => decide (a ≤ b)
theorem sortI_perm {ns : List Int} : (sortI ns).Perm ns := List.mergeSort_perm _ _
theorem sortI_pair {ns : List Int} : (sortI ns).Pairwise (· ≤ ·) := by
  have := List.pairwise_mergeSort (le := fun a b : Int => decide (a ≤ b)) (fun a b c h1 h2 => by simp at *; omega) (fun a b => by simp; omega) ns
  exact this.imp fun h => by simpa using h
end Dn
namespace Pg
open PySem PySem.Spec PyProof.Rows L2 Dn
end Pg
set_option linter.all false
namespace Bn
section
variable {ts : List Int} {cs cs' : List Cord} {ls ls' : List Lgt} {T U : Tales}
theorem IsTales.same_upto (m : IsTales ts cs ls T) (n : IsTales ts cs' ls' U) (b : Int)
    (H : ∀ d, d ≤ b → (∀ x : Int, 0 ≤ x → x < ts.length → upto (d - 1) (taleAt T x) = upto (d - 1) (taleAt U x)) → ∀ x : Int, 0 ≤ x → x < ts.length → ∀ e : Emb, e.1 ≤ d → (Ember ts cs ls T x e ↔ Ember ts cs' ls' U x e)) :
    ∀ x : Int, 0 ≤ x → x < ts.length → upto b (taleAt T x) = upto b (taleAt U x) := by
  have key : ∀ d, d ≤ b → ∀ x : Int, 0 ≤ x → x < ts.length → upto d (taleAt T x) = upto d (taleAt U x) := by
    obtain ⟨d0, hd0⟩ := lower_of (T.flatten ++ U.flatten)
    refine beats_ind (b0 := d0) (fun d hd _ x x0 x1 => ?_) fun d ih hb x x0 x1 => ?_
    · rw [upto_none fun s hs => by have := hd0 s (List.mem_append_left _ (mem_flat hs)); omega, upto_none fun s hs => by have := hd0 s (List.mem_append_right _ (mem_flat hs)); omega]
    · exact (m.made x x0 x1).same (n.made x x0 x1) (fun e he => H d hb (ih (by omega)) x x0 x1 e he) (ih (by omega) x x0 x1)
  exact key b (Int.le_refl _)
/-- cords that send nothing else up to a beat -/
def Near (ts : List Int) (T : Tales) (b : Int) (c c' : Cord) : Prop := c'.one = c.one ∧ c'.at_ = c.at_ ∧ c'.oth = c.oth ∧ 1 ≤ c'.lng ∧ (c' = c ∨ ∀ w, flame (taleAt T c.one) w = c.at_ → b < w + c.lng ∧ b < w + c'.lng)
theorem Near.rfl {b : Int} {c : Cord} (h : 1 ≤ c.lng) : Near ts T b c c := ⟨Eq.refl _, Eq.refl _, Eq.refl _, h, .inl (Eq.refl _)⟩
theorem alike (h : HouseOk ts cs) (m : IsTales ts cs ls T) (n : IsTales ts cs' ls' U) (b : Int) (hlen : cs'.length = cs.length) (hc : ∀ (i : Nat) (c c' : Cord), cs[i]? = some c → cs'[i]? = some c' → Near ts T b c c') (hl : ∀ l : Lgt, l.2 ≤ b → (l ∈ ls ↔ l ∈ ls')) :
    ∀ x : Int, 0 ≤ x → x < ts.length → upto b (taleAt T x) = upto b (taleAt U x) := by
  refine m.same_upto n b fun d hd ih x x0 x1 e he => ?_
  have fl : ∀ c ∈ cs, ∀ w, w ≤ d - 1 → flame (taleAt T c.one) w = flame (taleAt U c.one) w := fun c hcm w hw => by
    have k := h.cord c hcm
    rw [← flame_upto hw, ih _ k.one0 k.one1, flame_upto hw]
  unfold Ember
  refine or_congr ?_ ?_
  · constructor
    · rintro ⟨l, hlm, h1, rfl⟩
      exact ⟨l, (hl l (by simp only at he; omega)).mp hlm, h1, rfl⟩
    · rintro ⟨l, hlm, h1, rfl⟩
      exact ⟨l, (hl l (by simp only at he; omega)).mpr hlm, h1, rfl⟩
  · constructor
    · rintro ⟨i, c, hi, h1, h2, h3, h4⟩
      have hil : i < cs'.length := by have := (List.getElem?_eq_some_iff.mp hi).1; omega
      have hi' := List.getElem?_eq_getElem hil
      obtain ⟨n1, n2, n3, n4, n5⟩ := hc i c _ hi hi'
      have ck := h.cord c (List.mem_of_getElem? hi)
      have := ck.lng
      rcases n5 with n5 | n5
      · rw [n5] at hi'
        exact ⟨i, c, hi', h1, by rw [← fl c (List.mem_of_getElem? hi) _ (by omega)]; exact h2, h3, h4⟩
      · have := (n5 _ h2).1
        omega
    · rintro ⟨i, c', hi', h1, h2, h3, h4⟩
      have hil : i < cs.length := by have := (List.getElem?_eq_some_iff.mp hi').1; omega
      have hi := List.getElem?_eq_getElem hil
      obtain ⟨n1, n2, n3, n4, n5⟩ := hc i _ c' hi hi'
      have hm := List.mem_of_getElem? hi
      have ck := h.cord _ hm
      rw [n1, n2, ← fl _ hm _ (by omega)] at h2
      rcases n5 with n5 | n5
      · subst n5
        exact ⟨i, _, hi, h1, h2, h3, h4⟩
      · have := (n5 _ h2).2
        omega
def cap (b : Int) : Option Int → Option Int
  | none => none
  | some c => if c ≤ b then some c else none
theorem cap_iff {b c : Int} {k : Option Int} : cap b k = some c ↔ k = some c ∧ c ≤ b := by
  cases k with
  | none => simp [cap]
  | some d =>
    by_cases h : d ≤ b
    · simp only [cap, if_pos h, Option.some.injEq]
      constructor
      · rintro rfl
        exact ⟨Eq.refl _, h⟩
      · exact fun h => h.1
    · simp only [cap, if_neg h, Option.some.injEq]
      constructor
      · intro h'
        cases h'
      · rintro ⟨rfl, h'⟩
        exact (h h').elim
end
end Bn
set_option linter.all false
namespace Bn
/-! ### other lights of the same house -/
section
variable {ts : List Int} {cs : List Cord} {ls ls' : List Lgt} {T U : Tales} {x b : Int}
theorem wf_head {s : Setg} {t : List Setg} (w : Wf (s :: t)) : ∀ r ∈ t, s.1 < r.1 := (w.beats (t := [])).2
/-- by a light of it a candle is lit -/
theorem light_dark (n : IsTales ts cs ls' U) (x0 : 0 ≤ x) (x1 : x < ts.length) (hl : (x, b) ∈ ls') : ∃ s t, taleAt U x = s :: t ∧ s.1 ≤ b := by
  have mx := n.made x x0 x1
  obtain ⟨⟨s, hs, h1⟩, _⟩ := mx.met (b, topOf ts x, -1) (.inl ⟨(x, b), hl, rfl, rfl⟩)
  simp only at h1
  have wf := mx.wf
  generalize taleAt U x = t at *
  cases t with
  | nil => simp at hs
  | cons r t =>
    refine ⟨r, t, rfl, ?_⟩
    rcases List.mem_cons.mp hs with rfl | hs
    · exact h1
    · have := wf_head wf s hs
      omega
end
end Bn
set_option Elab.async false
set_option linter.all false
set_option maxRecDepth 100000
set_option maxHeartbeats 1000000
namespace Pg
open PySem PySem.Spec PyProof.Rows L2 Dn
section
variable {ts us : List Int} {cs ds : List Cord} {ls ls' : List Lgt} {x b : Int}
/-! ### lights put in order -/
/-- lights of different candles, put in order -/
theorem sort_lights {ps : List Lgt} (hn : (ps.map Prod.fst).Nodup) : ∃ qs : List Lgt, srt (ps.map lgtD) = qs.map lgtD ∧ qs.Perm ps ∧ (qs.map Prod.fst).Pairwise (· < ·) := by
  obtain ⟨qs, h1, h2⟩ := srt_map (e := lgtD) (xs := ps)
  refine ⟨qs, h1, h2, ?_⟩
  have hp := srt_pair (xs := ps.map lgtD)
  rw [h1, List.pairwise_map] at hp
  have hn' : (qs.map Prod.fst).Nodup := ((h2.map Prod.fst).nodup_iff).mpr hn
  rw [List.Nodup, List.pairwise_map] at hn'
  rw [List.pairwise_map]
  refine (hp.and hn').imp fun {a c} hac => ?_
  obtain ⟨h3, h4⟩ := hac
  rcases Int.lt_trichotomy a.1 c.1 with h5 | h5 | h5
  · exact h5
  · exact (h4 h5).elim
  · have : dLt (lgtD c) (lgtD a) = true := dlt_fst h5
    rw [this] at h3
    cases h3
/-- one light more, of a candle that has none -/
theorem light_more (l : Ls ts ls) (x0 : 0 ≤ x) (x1 : x < ts.length) (t7 : ts.length ≤ 7) (hx : ∀ q ∈ ls, q.1 ≠ x) (b0 : 0 ≤ b) (b1 : b ≤ 1000000) : ∃ ls', srt ((ls ++ [(x, b)]).map lgtD) = ls'.map lgtD ∧ Ls ts ls' ∧ ∀ q, q ∈ ls' ↔ q ∈ ls ∨ q = (x, b) := by
  have hr := l.lits.rise
  have hn : ((ls ++ [(x, b)]).map Prod.fst).Nodup := by
    rw [List.map_append, List.nodup_append]
    refine ⟨hr.imp fun h => by omega, by simp, fun a ha c hc => ?_⟩
    obtain ⟨q, hq, rfl⟩ := List.mem_map.mp ha
    simp at hc
    rw [hc]
    exact hx q hq
  obtain ⟨qs, h1, h2, h3⟩ := sort_lights hn
  have hm : ∀ q, q ∈ qs ↔ q ∈ ls ∨ q = (x, b) := fun q => by rw [h2.mem_iff]; simp
  have ok : ∀ q ∈ qs, 0 ≤ q.1 ∧ q.1 < ts.length ∧ 0 ≤ q.2 ∧ q.2 ≤ 1000000 := fun q hq => by
    rcases (hm q).mp hq with h | rfl
    · exact l.lits.ok q h
    · exact ⟨x0, x1, b0, b1⟩
  refine ⟨qs, h1, ⟨⟨h3, ok⟩, ?_⟩, hm⟩
  have key : ∀ (qs : List Int) (n : Int), qs.Pairwise (· < ·) → (∀ q ∈ qs, n ≤ q ∧ q < 7) → n ≤ 7 → (qs.length : Int) ≤ 7 - n := by
    intro qs
    induction qs with
    | nil => intro n _ _ hn; simp; omega
    | cons q qs ih =>
      intro n hp hq hn
      obtain ⟨h4, h5⟩ := List.pairwise_cons.mp hp
      have := hq q (by simp)
      have := ih (q + 1) h5 (fun r hr => ⟨by have := h4 r hr; omega, (hq r (by simp [hr])).2⟩) (by omega)
      simp only [List.length_cons]
      omega
  have := key (qs.map Prod.fst) 0 h3 (fun q hq => by
    obtain ⟨r, hr, rfl⟩ := List.mem_map.mp hq
    have := ok r hr
    omega) (by omega)
  simp at this
  omega
/-! ### houses side by side -/
end
end Pg
set_option Elab.async false
set_option linter.all false
set_option maxRecDepth 100000
set_option maxHeartbeats 4000000
namespace Ph
open PySem PySem.Spec PyProof.Rows L2 Dn
noncomputable def b__law_take : DS := (dSeq (dIfS (dTidyT (dTest (dOp gGt (dOp gIx (dVar 0) (dC (.int 0))) (dC (.int 0))))) (dSeq (dAsg (dTidy (dOp gMod (dOp gIx (dVar 0) (dC (.int 0))) (dVar 1))) (dName 3))
    (dSeq (dAsg (dTidy (dOp gDiv (dOp gIx (dVar 0) (dC (.int 0))) (dVar 1))) (dgSub (dVar 0) (dC (.int 0))))
    (dRet (dVar 3)))) dNext)
    (dSeq (dAsg (dTidy (dOp gMod (dOp gAdd (dOp gMulT (dOp gIx (dVar 0) (dC (.int 1))) (dC (.int 48271))) (dC (.int 29))) (dC (.int 2147483647)))) (dgSub (dVar 0) (dC (.int 1))))
    (dSeq (dAsg (dTidy (dOp gMod (dOp gAdd (dOp gAdd (dOp gMulT (dOp gIx (dVar 0) (dC (.int 1))) (dOp gIx (dVar 0) (dC (.int 1)))) (dOp gMulT (dC (.int 39373)) (dOp gIx (dVar 0) (dC (.int 1))))) (dC (.int 7))) (dC (.int 2147483629)))) (dName 2))
    (dSeq (dAsg (dTidy (dOp gMod (dOp gAdd (dOp gMulT (dVar 2) (dVar 2)) (dOp gMulT (dC (.int 16807)) (dVar 2))) (dC (.int 2147483587)))) (dName 2))
    (dRet (dOp gMod (dOp gDiv (dVar 2) (dC (.int 8))) (dVar 1)))))))
noncomputable def m__law_take : DF := runF 2 4 b__law_take
end Ph
set_option Elab.async false
set_option linter.all false
set_option maxRecDepth 100000
namespace Ph
open PySem PySem.Spec PyProof.Rows L2 Dn
/-! ### the second family's pen: a state of two numbers -/
def w_take (m : PyData) (κ : PyData → Prop) : Prop := ∃ k : Int, m = .int k ∧ 0 < k ∧ k < 2 ^ 64 ∧ ∀ v : Int, 0 ≤ v → v < k → κ (.int v)
theorem two_of {q : List Int} (h : q.length = 2) : ∃ a b, q = [a, b] := by
  match q, h with
  | [a, b], _ => exact ⟨a, b, rfl⟩
theorem sw_take : SpW m__law_take 2 1 (fun xs κ => match xs with | [m] => w_take m κ | _ => False) := fun C j q xs κ hq hc hl hw => by
  match xs, hl, hw with
  | [m], _, hw =>
    obtain ⟨k, rfl, h0, h1, hk⟩ := hw
    obtain ⟨a, b, rfl⟩ := two_of hq
    have hn := cellAt_lt hc
    have h2 : k < 18446744073709551616 := by simpa using h1
    have hk' : ∀ x : Int, κ (.int (x % k)) := fun x => hk _ (Int.emod_nonneg _ (by omega)) (Int.emod_lt_of_pos _ h0)
    have go : Wo (m__law_take [.c j, .d (.int k)] C) fun y => ∃ x q', y = (.d x, C.set j (some ((q' : List Int).map .int))) ∧ q'.length = 2 ∧ κ x := by
      unfold m__law_take
      rw [wo_run2]
      unfold b__law_take
      have i0 : L2.ixN 2 0 = some 0 := rfl
      have i1 : L2.ixN 2 1 = some 1 := rfl
      have b1 : ((b * 48271 + 29) % 2147483647).natAbs < 2 ^ 64 := by omega
      have b2 : ∀ x : Int, (x % 2147483629).natAbs < 2 ^ 64 := fun x => by omega
      simp [dVar, hc, dgSub, h0, h2, cellAt_set hn, hk', i0, i1]
      split
      · exact ⟨_, [a / k, b], ⟨rfl, rfl⟩, rfl, hk' _⟩
      · simp [b1, b2, cellAt_set hn]
        exact ⟨_, [a, _], ⟨rfl, rfl⟩, rfl, hk' _⟩
    obtain ⟨y, e, x, q', rfl, h3, h4⟩ := go
    exact ⟨x, q', e, h3, h4⟩
end Ph
set_option Elab.async false
set_option linter.all false
set_option maxRecDepth 100000
set_option maxHeartbeats 4000000
namespace Ph
open PySem PySem.Spec PyProof.Rows L2 Dn
-- v__law_house_1, v__law_house_2, v__law_house_3, v__law_house_4
-- v__law_lights_1, v__law_lights_2, v__law_lights_3
end Ph
set_option Elab.async false
set_option linter.all false
set_option maxRecDepth 100000
namespace Ph
open PySem PySem.Spec PyProof.Rows L2 Dn Pg
end Ph
set_option Elab.async false
set_option linter.all false
set_option maxRecDepth 100000
namespace Dn
open PySem PySem.Spec PyProof.Rows L2
theorem fil_map {α : Type} {e : α → PyData} {q : α → Bool} {xs : List α} : xs.filterMap (fun p => if q p = true then some (e p) else none) = (xs.filter q).map e := by
  induction xs with
  | nil => rfl
  | cons x xs ih => by_cases h : q x = true <;> simp [h, ih]
@[simp] theorem pNe_lints {a b : List Int} : pNe (.list (a.map .int)) (.list (b.map .int)) = some (.bool !(decide (a = b))) := by simp [pNe, fits_lists]
/-- what is counted from 0 on -/
theorem wo_range {k : Int} {κ : List PyData → Prop} (h : k ≤ 1000000) (h0 : -1000000 ≤ k) (hk : ∀ items, (∀ x ∈ items, ∃ i : Int, x = .int i ∧ 0 ≤ i ∧ i < k) → κ items) : Wo (pRange1 (.int k)) κ := by
  refine ⟨rng 0 k.toNat, if_pos (show -1000000000000000 ≤ k ∧ k ≤ 1000000000000000 by omega), hk _ fun x hx => ?_⟩
  obtain ⟨i, rfl, h0, h1⟩ := mem_rng0 hx
  exact ⟨i, rfl, h0, by omega⟩
end Dn
namespace Pg
open PySem PySem.Spec PyProof.Rows L2 Dn
end Pg
set_option Elab.async false
set_option linter.all false
set_option maxRecDepth 100000
namespace Pg
open PySem PySem.Spec PyProof.Rows L2 Dn
section
variable {ts : List Int} {cs : List Cord} {ls : List Lgt} {t : List Setg} {T : List (List Setg)}
theorem empty_t : pEq (taleD t) (.tuple []) = some (.bool t.isEmpty) ∧ pNe (taleD t) (.tuple []) = some (.bool !t.isEmpty) := by
  have hd : PyData.hasDict (taleD t) = false := by
    unfold taleD
    simp only [PyData.hasDict]
    induction t with
    | nil => rfl
    | cons s t ih =>
      simp only [List.map_cons, PyData.hasDictAll, ih, Bool.or_false]
      obtain ⟨a, b, c⟩ := s
      cases c <;> simp [setD, optD, PyData.hasDict, PyData.hasDictAll]
  have := eqv_empty_t hd
  unfold taleD at *
  simpa using this
theorem any_ints {c : Int} {ns : List Int} : ((ns.map PyData.int).any fun z => PyData.eqv z (.int c)) = decide (c ∈ ns) := by
  induction ns with
  | nil => simp
  | cons n ns ih =>
    simp only [List.map_cons, List.any_cons, ih, eqv_int, List.mem_cons]
    by_cases h1 : n = c
    · subst h1; simp
    · have : ¬ c = n := fun e => h1 e.symm
      simp [h1, this]
theorem flat_ints {ns : List Int} : (ns.map PyData.int).all flatN = true := by
  simp [List.all_map, flatN]
theorem pIn_ints {neg : Bool} {c : Int} {ns : List Int} : pInB neg (.int c) (.list (ns.map .int)) = some (.bool (if neg then !decide (c ∈ ns) else decide (c ∈ ns))) := by
  unfold pInB
  simp only [itemsOf_l, Option.bind_some, any_ints]
  rw [if_pos ⟨rfl, flat_ints⟩]
theorem pIn_intsT {neg : Bool} {c : Int} {ns : List Int} : pInB neg (.int c) (.tuple (ns.map .int)) = some (.bool (if neg then !decide (c ∈ ns) else decide (c ∈ ns))) := by
  unfold pInB
  simp only [itemsOf_t, Option.bind_some, any_ints]
  rw [if_pos ⟨rfl, flat_ints⟩]
theorem rise_len : ∀ {qs : List Int} {n m : Int}, qs.Pairwise (· < ·) → (∀ q ∈ qs, n ≤ q ∧ q < m) → n ≤ m → (qs.length : Int) ≤ m - n := by
  intro qs
  induction qs with
  | nil => intro n m _ _ hn; simp; omega
  | cons q qs ih =>
    intro n m hp hq hn
    obtain ⟨h4, h5⟩ := List.pairwise_cons.mp hp
    have := hq q (by simp)
    have := ih (n := q + 1) (m := m) h5 (fun r hr => ⟨by have := h4 r hr; omega, (hq r (by simp [hr])).2⟩) (by omega)
    simp only [List.length_cons]
    omega
/-! without lights -/
end
end Pg
set_option Elab.async false
set_option linter.all false
set_option maxRecDepth 100000
set_option maxHeartbeats 1000000
namespace Pg
open PySem PySem.Spec PyProof.Rows L2 Dn
end Pg
set_option linter.all false
set_option linter.all false
namespace Bn
/-! ### what is out is as if gone -/
section
variable {ts : List Int} {cs ds : List Cord} {ls ls' : List Lgt} {T P U : Tales} {x c E : Int} {t : List Setg}
/-- other names of cords -/
def nameS (r : Int → Int) (s : Setg) : Setg := (s.1, s.2.1, s.2.2.map r)
def nameE (r : Int → Int) (e : Emb) : Emb := (e.1, e.2.1, if e.2.2 = -1 then -1 else r e.2.2)
theorem flame_name {r : Int → Int} {b : Int} : flame (t.map (nameS r)) b = flame t b := by
  unfold flame
  rw [List.foldl_map]
  rfl
theorem wf_name {r : Int → Int} (w : Wf t) : Wf (t.map (nameS r)) := by
  induction w with
  | nil => exact .nil
  | one h => exact .one h
  | snoc w h b f ih =>
    rw [List.map_append, List.map_append, List.map_cons, List.map_nil, List.map_cons, List.map_nil] at *
    exact .snoc ih h b f
theorem Made.name {r : Int → Int} {F : Emb → Prop} (m : Made F t) (hr : ∀ e, F e → e.2.2 = -1 ∨ (0 ≤ e.2.2 ∧ 0 ≤ r e.2.2)) (hmono : ∀ e f, F e → F f → 0 ≤ e.2.2 → e.2.2 ≤ f.2.2 → r e.2.2 ≤ r f.2.2) : Made (fun e => ∃ f, F f ∧ e = nameE r f) (t.map (nameS r)) := by
  refine ⟨wf_name m.wf, fun s hs => ?_, fun e he => ?_⟩
  · obtain ⟨s, hs', rfl⟩ := List.mem_map.mp hs
    obtain ⟨f, hf, h1, h2⟩ := m.made s hs'
    refine ⟨nameE r f, ⟨f, hf, rfl⟩, ?_, ?_⟩
    · rw [h1]
      unfold setOf nameE nameS
      rcases hr f hf with h | ⟨h, h'⟩
      · simp [h]
      · have a1 : ¬ f.2.2 = -1 := by omega
        have a2 : ¬ r f.2.2 = -1 := by omega
        simp [a1, a2]
    · rintro e' ⟨g, hg, rfl⟩ hb
      have := h2 g hg hb
      unfold eLe nameE at *
      simp only at hb ⊢
      rcases this with h | ⟨h3, h | ⟨h4, h5⟩⟩
      · exact .inl h
      · exact .inr ⟨h3, .inl h⟩
      · refine .inr ⟨h3, .inr ⟨h4, ?_⟩⟩
        rcases hr f hf with h | ⟨h, h'⟩
        · rw [if_pos h]
          rcases hr g hg with k | ⟨k, k'⟩
          · rw [if_pos k]; exact Int.le_refl _
          · rw [if_neg (by omega)]; omega
        · have : ¬ g.2.2 = -1 := by omega
          rw [if_neg (by omega), if_neg this]
          exact hmono f g hf hg h h5
  · obtain ⟨f, hf, rfl⟩ := he
    obtain ⟨⟨s, hs, h1⟩, h2⟩ := m.met f hf
    refine ⟨⟨nameS r s, List.mem_map.mpr ⟨s, hs, rfl⟩, h1⟩, ?_⟩
    show flame (t.map (nameS r)) f.1 ≤ f.2.1
    rw [flame_name]
    exact h2
end
end Bn
set_option Elab.async false
set_option linter.all false
set_option maxRecDepth 100000
set_option maxHeartbeats 1000000
namespace Pg
open PySem PySem.Spec PyProof.Rows L2 Dn
section
variable {ts : List Int} {cs : List Cord} {ls : List Lgt} {x : Int} {ps : List Int} {T P : List (List Setg)} {t : List Setg}
theorem risen_of : ∀ {ps : List Int}, ps.Pairwise (· < ·) → risen (ps.map PyData.int) = true
  | [], _ => rfl
  | [p], _ => rfl
  | p :: q :: ps, h => by
    obtain ⟨h1, h2⟩ := List.pairwise_cons.mp h
    have := risen_of h2
    have h3 : lt2 (PyData.int p, PyData.int q) = true := by
      have := h1 q (by simp)
      simp [lt2, this]
    unfold risen at *
    simp only [List.map_cons, List.tail_cons, List.zip_cons_cons, List.all_cons, h3, Bool.true_and] at this ⊢
    exact this
theorem rising_ints (h : ps.Pairwise (· < ·)) (hl : ps.length ≤ 10000) : p_are_rising (.tuple (ps.map .int)) = some (.bool true) := by
  unfold p_are_rising
  simp only
  rw [if_pos ⟨by simpa using hl, fun y hy => by
    obtain ⟨i, _, rfl⟩ := List.mem_map.mp hy
    exact ⟨i, rfl⟩⟩, risen_of h]
/-- the cords that are left -/
def leave (cs : List Cord) (ps : List Int) : List Cord := (cs.zipIdx.filter fun p => decide (((p.2 : Nat) : Int) ∉ ps)).map Prod.fst
theorem leave_sub {c : Cord} (h : c ∈ leave cs ps) : c ∈ cs := by
  obtain ⟨p, hp, rfl⟩ := List.mem_map.mp h
  exact List.fst_mem_of_mem_zipIdx (List.mem_filter.mp hp).1
theorem hs_leave (h : Hs ts cs) : Hs ts (leave cs ps) := by
  refine ⟨h.tops, ?_, ⟨h.ok.top, fun c hc => h.ok.cord c (leave_sub hc)⟩, fun c hc => h.lng c (leave_sub hc)⟩
  unfold leave
  rw [List.length_map]
  refine Nat.le_trans (List.length_filter_le _ _) ?_
  rw [List.length_zipIdx]
  exact h.c10
theorem is_pick_eq {n : Int} (hp : ps.Pairwise (· < ·)) (hr : ∀ p ∈ ps, 0 ≤ p ∧ p < n) (hl : ps.length ≤ 10000) : p_is_pick (.tuple (ps.map .int)) (.int n) = some (.bool true) := by
  unfold p_is_pick q_is_pick
  have h2 : (PyData.tuple (ps.map .int)).isTuple = true := rfl
  simp only [Option.bind_some, Option.map_some, h2, asB_bool, pNot_some, Bool.not_true, pIf_false, itemsOf_t, pSub_int]
  rw [pMap_eq (enc := PyData.int) (F := fun _ => PyData.bool true) (fun p hpm => by
    have := hr p hpm
    rw [pU1_eq, Option.bind_some, is_from_to_eq]
    congr 2
    simp [wIn]
    omega) hl]
  simp only [Option.map_some, Option.bind_some, all_true, asB_bool, pIf_true, rising_ints hp hl, pRun_some]
theorem cut_off_eq (h10 : cs.length ≤ 100) (hl : ps.length ≤ 10000) : p_cut_off (houseD ts cs) (.tuple (ps.map .int)) = some (houseD ts (leave cs ps)) := by
  unfold p_cut_off q_cut_off
  simp only [Option.bind_some, pU2_houseD, pEnum_t, pairs_map]
  rw [pFil_eq (enc := fun p : Cord × Nat => PyData.tuple [.int (p.2 : Nat), cordD p.1]) (F := fun p => if decide (((p.2 : Nat) : Int) ∉ ps) = true then some (cordD p.1) else none) (fun p _ => by
    simp only [pU2_eq, Option.bind_some, pIn_intsT]
    by_cases hc : ((p.2 : Nat) : Int) ∈ ps <;> simp [hc, pIf]) (by simp; omega)]
  have e : (cs.zipIdx.filterMap fun p : Cord × Nat => if decide (((p.2 : Nat) : Int) ∉ ps) = true then some (cordD p.1) else none) = (leave cs ps).map cordD := by
    unfold leave
    rw [List.map_map]
    exact fil_map (e := fun p : Cord × Nat => cordD p.1)
  simp only [Option.map_some, Option.bind_some, e, pTuple, pRun_some]
  rfl
theorem without_eq (h : Hs ts cs) (hp : ps.Pairwise (· < ·)) (hr : ∀ p ∈ ps, 0 ≤ p ∧ p < cs.length) (hl : ps.length ≤ 10000) : p_without (houseD ts cs) (.tuple (ps.map .int)) = some (houseD ts (leave cs ps)) := by
  unfold p_without q_without
  have h10 := h.c10
  simp only [Option.bind_some, need_house_eq h, pIx_houseD1, pLen_t, List.length_map, is_pick_eq hp hr hl, asB_bool, pNot_some, Bool.not_true, pIf_false, cut_off_eq (show cs.length ≤ 100 by omega) hl, pRun_some]
/-! cords at candles that were lit, and the others -/
end
end Pg
set_option Elab.async false
set_option linter.all false
set_option maxRecDepth 100000
set_option maxHeartbeats 4000000
namespace Dn
open PySem PySem.Spec PyProof.Rows L2 PySem.Calls
open Evl (Ex Ex.refl Ex.trans Ex.new fresh_back ex_l ex_t ex_rd)
/-! ### a set of a list of whole numbers -/
abbrev bare (w : World) : Obj := { cls := .type "set", dict := none, data := .set #[] 0 (.fresh 0 0 (!w.params.followText "set-order")) }
/-! ### sorted(set(numbers)) -/
end Dn
set_option Elab.async false
set_option linter.all false
set_option maxRecDepth 100000
set_option maxHeartbeats 4000000
namespace Dn
open PySem PySem.Spec PyProof.Rows L2 PySem.Calls
open Evl (Ex Ex.refl Ex.trans Ex.new fresh_back ex_l ex_t ex_rd)
/-! ### sorted({number for .. if ..}) -/
/-- the set that is being made -/
def Made (w : World) (h : Heap) (D : Addr) (acc : List Int) : Prop := ∃ c, SetR w h D (fun j => decide (j ∈ acc)) c ∧ c ≤ acc.length
/-! ### told of data -/
end Dn
set_option Elab.async false
set_option linter.all false
set_option maxRecDepth 100000
namespace Dn
open PySem PySem.Spec PyProof.Rows L2
/-! ### sorted(set(..)), told of data -/
end Dn
set_option Elab.async false
set_option linter.all false
set_option maxRecDepth 100000
set_option maxHeartbeats 4000000
namespace Pg
open PySem PySem.Spec PyProof.Rows L2 Dn
end Pg
set_option Elab.async false
set_option linter.all false
set_option maxRecDepth 100000
set_option maxHeartbeats 4000000
namespace Dn
open PySem PySem.Spec PyProof.Rows L2 PySem.Calls
open Evl (Ex Ex.refl Ex.trans Ex.new fresh_back ex_l ex_t ex_rd)
/-! ### sorted of tuples of which the first one is empty -/
end Dn
set_option Elab.async false
set_option linter.all false
set_option maxRecDepth 100000
namespace Dn
open PySem PySem.Spec PyProof.Rows L2
end Dn
set_option Elab.async false
set_option linter.all false
set_option maxRecDepth 100000
namespace Dn
open PySem PySem.Spec PyProof.Rows L2
open Evl (Ex Ex.refl Ex.trans Ex.new fresh_back ex_l ex_t ex_rd)
/-! ### the last item of a list, taken out -/
end Dn
set_option Elab.async false
set_option linter.all false
set_option maxRecDepth 100000
namespace Dn
open PySem PySem.Spec PyProof.Rows L2
end Dn
set_option Elab.async false
set_option linter.all false
set_option maxRecDepth 100000
namespace Dn
open PySem PySem.Spec PyProof.Rows L2
open Evl (Ex Ex.refl Ex.trans Ex.new fresh_back ex_l ex_t ex_rd)
/-! ### x.index(number), of a tuple, of a list -/
/-! ### three names at once -/
end Dn
set_option Elab.async false
set_option linter.all false
set_option maxRecDepth 100000
namespace Dn
open PySem PySem.Spec PyProof.Rows L2
/-! ### x.index(number) -/
def pIdx (x y : PyData) : Option PyData := (itemsOf x).bind fun xs => (intsOf xs).bind fun ns => match y with
  | .int k => if k ∈ ns then some (.int (ns.idxOf k : Nat)) else none
  | _ => none
@[simp] theorem pIdx_t {ns : List Int} {k : Int} : pIdx (.tuple (ns.map .int)) (.int k) = if k ∈ ns then some (.int (ns.idxOf k : Nat)) else none := by
  have : intsOf (ns.map PyData.int) = some ns := by
    induction ns with
    | nil => rfl
    | cons n ns ih => simp [intsOf, ih]
  simp [pIdx, this]
@[simp] theorem pIdx_l {ns : List Int} {k : Int} : pIdx (.list (ns.map .int)) (.int k) = if k ∈ ns then some (.int (ns.idxOf k : Nat)) else none := by
  have : intsOf (ns.map PyData.int) = some ns := by
    induction ns with
    | nil => rfl
    | cons n ns ih => simp [intsOf, ih]
  simp [pIdx, this]
end Dn
set_option Elab.async false
set_option linter.all false
set_option maxRecDepth 100000
set_option maxHeartbeats 4000000
namespace Pg
open PySem PySem.Spec PyProof.Rows L2 Dn
end Pg
set_option Elab.async false
set_option linter.all false
set_option maxRecDepth 100000
namespace Dn
open PySem PySem.Spec PyProof.Rows L2
open Evl (Ex Ex.refl Ex.trans Ex.new fresh_back ex_l ex_t ex_rd)
/-! ### an item of a list, taken out by its number -/
end Dn
set_option Elab.async false
set_option linter.all false
set_option maxRecDepth 100000
namespace Dn
open PySem PySem.Spec PyProof.Rows L2
open Evl (Ex Ex.refl Ex.trans Ex.new fresh_back ex_l ex_t ex_rd)
/-! ### dict(a tuple of pairs).get(key, else) -/
end Dn
set_option Elab.async false
set_option linter.all false
set_option maxRecDepth 100000
namespace Dn
open PySem PySem.Spec PyProof.Rows L2
/-! ### dict(a tuple of pairs).get(key, else) -/
end Dn
set_option Elab.async false
set_option linter.all false
set_option maxRecDepth 100000
set_option maxHeartbeats 4000000
namespace Pg
open PySem PySem.Spec PyProof.Rows L2 Dn
end Pg
set_option Elab.async false
set_option linter.all false
set_option maxRecDepth 100000
namespace Dn
open PySem PySem.Spec PyProof.Rows L2
open Evl (Ex Ex.refl Ex.trans Ex.new fresh_back ex_l ex_t ex_rd)
/-! ### the greatest of a list of alike things -/
end Dn
set_option Elab.async false
set_option linter.all false
set_option maxRecDepth 100000
namespace Dn
open PySem PySem.Spec PyProof.Rows L2
/-! ### the greatest of a list of alike things -/
end Dn
set_option Elab.async false
set_option linter.all false
set_option maxRecDepth 100000
namespace Dn
open PySem PySem.Spec PyProof.Rows L2
open Evl (Ex Ex.refl Ex.trans Ex.new fresh_back ex_l ex_t ex_rd)
/-! ### lists within a list -/
section
variable {K : PySem.W.Frag}
theorem WC.out {I : Hp} {C : CS} {μ : List Addr} {H : Hp} (w : WC K I C μ H) {p : Addr} {o : HO} (hI : I p = none) (hp : p ∉ μ) : WC K I C μ (upd H p o) := by
  refine ⟨fun a u q => ?_, w.len, w.nd, fun n xs e => ?_, fun a ha => ?_⟩
  · have hne : a ≠ p := fun z => by rw [z, hI] at q; cases q
    rw [upd_ne hne]
    exact w.ex a u q
  · obtain ⟨a, vs, h1, h2, h3, h4⟩ := w.cell n xs e
    have hne : a ≠ p := fun z => hp (z ▸ List.mem_of_getElem? h1)
    exact ⟨a, vs, h1, h2, by rw [upd_ne hne]; exact h3, h4⟩
  · have hne : a ≠ p := fun z => hp (z ▸ ha)
    rw [upd_ne hne]
    exact w.old a ha
/-! ### a comprehension over lists within a list -/
end
end Dn
set_option Elab.async false
set_option linter.all false
set_option maxRecDepth 100000
namespace Dn
open PySem PySem.Spec PyProof.Rows L2
/-! ### lists within a list, and what is only read, told of data -/
def asL : PyData → Option (List PyData)
  | .list xs => some xs
  | _ => none
@[simp] theorem asL_list {xs : List PyData} : asL (.list xs) = some xs := rfl
section
variable {B : FB} {A : AE} {ε : Ev} {C G : CS} {i : Nat}
theorem Fr.cell (h : Fr B C) (hp : B.ps = []) {n : Nat} {xs : List PyData} (ho : B.out n) (e : cellAt B.b n = some xs) : cellAt C n = some xs := by
  unfold cellAt at e ⊢
  have hn : n < B.b.length := cellAt_lt (show cellAt B.b n = some xs from e)
  rw [h.old n hn (fun k z => by rw [hp] at z; cases z) ho]
  exact e
end
/-! ### calls that hand over lists as they stand -/
def Mat (C : CS) (r : SV) : AV → Prop
  | .dat x => r = .d x
  | .ro xs => rdD r C = some (.list xs)
  | .rn xss => ∃ m, r = .b m xss.length ∧ ∀ (j : Nat) xs, xss[j]? = some xs → cellAt C (m + j) = some xs
  | .wn xss => ∃ m, r = .b m xss.length ∧ ∀ (j : Nat) xs, xss[j]? = some xs → cellAt C (m + j) = some xs
  | _ => False
inductive Mats (C : CS) : List SV → List AV → Prop
  | nil : Mats C [] []
  | cons {r : SV} {rs : List SV} {a : AV} {as : List AV} (h : Mat C r a) (t : Mats C rs as) : Mats C (r :: rs) (a :: as)
theorem Mat.app {C G : CS} {r : SV} {a : AV} (h : Mat C r a) : Mat (C ++ G) r a := by
  cases a with
  | dat x => exact h
  | ro xs => exact rd_app h
  | rn xss =>
    obtain ⟨m, h1, h2⟩ := h
    exact ⟨m, h1, fun j xs e => by rw [cellAt_app (cellAt_lt (h2 j xs e))]; exact h2 j xs e⟩
  | wn xss =>
    obtain ⟨m, h1, h2⟩ := h
    exact ⟨m, h1, fun j xs e => by rw [cellAt_app (cellAt_lt (h2 j xs e))]; exact h2 j xs e⟩
  | _ => exact h
theorem Mats.len {C : CS} : ∀ {rs : List SV} {as : List AV}, Mats C rs as → rs.length = as.length
  | _, _, .nil => rfl
  | _, _, .cons _ t => by simp [Mats.len t]
theorem Mats.at_ {C : CS} : ∀ {rs : List SV} {as : List AV} {i : Nat} {a : AV}, Mats C rs as → as[i]? = some a → ∃ r, rs[i]? = some r ∧ Mat C r a
  | _, _, _, _, .nil, e => by simp at e
  | _, _, 0, _, .cons h _, e => by simp at e; subst e; exact ⟨_, rfl, h⟩
  | _, _, i + 1, _, .cons _ t, e => by
    obtain ⟨r, h1, h2⟩ := Mats.at_ (i := i) t (by simpa using e)
    exact ⟨r, by simpa using h1, h2⟩
section
variable {B : FB} {A : AE} {f : DE} {o : Option PyData} {i n : Nat} {β : Type} {fr : DA} {tr : (List AV → Option β) → Option β}
/-- the cells of a list of lists have been written, no others -/
structure Wrote (C C' : CS) (m : Nat) (xss yss : List (List PyData)) : Prop where
  len : C'.length = C.length
  many : yss.length = xss.length
  out : ∀ q, (q < m ∨ m + xss.length ≤ q) → C'[q]? = C[q]?
  here : ∀ (j : Nat) ys, yss[j]? = some ys → cellAt C' (m + j) = some ys
end
/-! ### comprehensions over a list that is written elsewhere -/
end Dn
set_option Elab.async false
set_option linter.all false
set_option maxRecDepth 100000
namespace Dn
open PySem PySem.Spec PyProof.Rows L2
/-! ### a def that writes a list of lists handed in -/
section
variable {B : FB} {A : AE} {ε : Ev} {C C' : CS} {i : Nat}
theorem Wrote.cell {m : Nat} {xss yss : List (List PyData)} (w : Wrote C C' m xss yss) {q : Nat} (hq : q < m ∨ m + xss.length ≤ q) : cellAt C' q = cellAt C q := by
  unfold cellAt
  rw [w.out q hq]
end
end Dn
namespace Dn
open PySem PySem.Spec PyProof.Rows L2
end Dn
set_option Elab.async false
set_option linter.all false
set_option maxRecDepth 100000
namespace Dn
open PySem PySem.F
/-! ### itertools.combinations: what the tables tell of the class -/
theorem cm_mro : mroOf (.type "itertools.combinations") = pure [.type "itertools.combinations", .type "object"] := by
  rw [mroOf_type]
  kernel_rfl
theorem cm_new : typeLookup (.type "itertools.combinations") "__new__" = pure (some (.builtin "itertools.combinations.__new__")) := by
  rw [typeLookup_type, builtinLookup_eq_fast]
  kernel_rfl
theorem cm_init : Slot "itertools.combinations" "__init__" "object.__init__" := by
  refine .of (owner := "object") (n := "__init__") ?_ ?_ ?_ ?_ ?_ ?_
  · rw [typeLookup_type, builtinLookup_eq_fast]
    kernel_rfl
  · decide +kernel
  · decide +kernel
  · decide +kernel
  · first
      | exact .inl (by decide +kernel)
      | exact .inr (by decide +kernel)
  · rw [isSubtype_type]
    kernel_rfl
theorem cm_iter : Slot "itertools.combinations" "__iter__" "itertools.combinations.__iter__" := by
  refine .of (owner := "itertools.combinations") (n := "__iter__") ?_ ?_ ?_ ?_ ?_ ?_
  · rw [typeLookup_type, builtinLookup_eq_fast]
    kernel_rfl
  · decide +kernel
  · decide +kernel
  · decide +kernel
  · first
      | exact .inl (by decide +kernel)
      | exact .inr (by decide +kernel)
  · rw [isSubtype_type]
    kernel_rfl
theorem cm_next : Slot "itertools.combinations" "__next__" "itertools.combinations.__next__" := by
  refine .of (owner := "itertools.combinations") (n := "__next__") ?_ ?_ ?_ ?_ ?_ ?_
  · rw [typeLookup_type, builtinLookup_eq_fast]
    kernel_rfl
  · decide +kernel
  · decide +kernel
  · decide +kernel
  · first
      | exact .inl (by decide +kernel)
      | exact .inr (by decide +kernel)
  · rw [isSubtype_type]
    kernel_rfl
theorem cm_called : TypeCalled "itertools.combinations" "itertools.combinations.__new__" "object.__init__" where
  notType := by decide +kernel
  canCreate := by decide +kernel
  mro := ⟨_, _, cm_mro⟩
  made := madeBy_type cm_mro cm_new (by decide +kernel)
  plain := by decide +kernel
  sub := by
    rw [isSubtype_type]
    kernel_rfl
  init := cm_init
theorem cm_typeCall (a b : Value) : checkTypeCall "itertools.combinations" ⟨[a, b], []⟩ = pure () := by kernel_rfl
theorem cm_newCall (a b : Value) : checkBuiltinCall "itertools.combinations.__new__" ⟨[.type "itertools.combinations", a, b], []⟩ = pure () := by kernel_rfl
theorem cm_entry_new : entryFor table "itertools.combinations.__new__" = some Builtin.«itertools.combinations.__new__» := entryFor_of_tree (by kernel_rfl)
theorem cm_entry_next : entryFor table "itertools.combinations.__next__" = some Builtin.«itertools.combinations.__next__» := entryFor_of_tree (by kernel_rfl)
theorem cm_entry_iter : entryFor table "itertools.combinations.__iter__" = some Builtin.«dict_keyiterator.__iter__» := by
  refine entryFor_alias (id' := "dict_keyiterator.__iter__") (by kernel_rfl) ?_ ?_ ?_
  · first
      | rfl
      | decide +kernel
      | (unfold String.splitOn; simp +decide [String.splitOnAux])
  · decide +kernel
  · kernel_rfl
theorem cm_args_iter (a : Value) : argsOk "itertools.combinations.__iter__" ⟨[a], []⟩ := by
  unfold argsOk
  rw [signature?_of (id := "itertools.combinations.__iter__") (n := "__iter__".toList.reverse) (o := "itertools.combinations".toList.reverse) (by kernel_rfl) (rows := Manifest.sig_itertools_combinations) (by kernel_rfl)]
  kernel_rfl
theorem cm_args_next (a : Value) : argsOk "itertools.combinations.__next__" ⟨[a], []⟩ := by
  unfold argsOk
  rw [signature?_of (id := "itertools.combinations.__next__") (n := "__next__".toList.reverse) (o := "itertools.combinations".toList.reverse) (by kernel_rfl) (rows := Manifest.sig_itertools_combinations) (by kernel_rfl)]
  kernel_rfl
theorem cm_args_init (a b c : Value) : argsOk "object.__init__" ⟨[a, b, c], []⟩ := by
  unfold argsOk
  rw [signature?_of (id := "object.__init__") (n := "__init__".toList.reverse) (o := "object".toList.reverse) (by kernel_rfl) (rows := Manifest.sig_object) (by kernel_rfl)]
  kernel_rfl
theorem cm_hasDict : typeHasDict (.type "itertools.combinations") = false := by decide +kernel
end Dn
set_option Elab.async false
set_option linter.all false
set_option maxRecDepth 100000
namespace Dn
open PySem
/-- the numbers of the next pick -/
def nxt (n : Nat) (l : List Nat) : Option (List Nat) :=
  match (List.range l.length).reverse.find? (fun i => l.getD i 0 != i + n - l.length) with
  | none => none
  | some i =>
    some (l.take i ++ (List.range (l.length - i)).map
      (l.getD i 0 + 1 + ·))
def combF (pool : Addr) (st : Int) (old : Value) (ix : List Nat) : List Value := .ref pool :: rawInt st :: old :: ix.map fun (i : Nat) => rawInt i
def IsComb (h : Heap) (it pool : Addr) (st : Int) (old : Value) (ix : List Nat) : Prop :=
  h.get? it = some { cls := .type "itertools.combinations", data := .fields (combF pool st old ix).toArray }
theorem comb_back {ix : List Nat} : (ix.map fun (i : Nat) => rawInt i).map (fun | .int n _ => n.toNat | _ => 0) = ix := by
  induction ix with
  | nil => rfl
  | cons i ix ih => rw [List.map_cons, List.map_cons, ih]; simp [rawInt]
section
variable {prog : Program} {w : World} {A : Around} {E : Value → Shared → Prop} {s : Shared}
theorem comb_iter {it pool : Addr} {st : Int} {old : Value} {ix : List Nat} {Q : Value → Shared → Prop} (h : IsComb s.heap it pool st old ix) (hq : Q (.ref it) s) : wpAny (model prog w) A (pyIter (.ref it)) Q E s := by
  have hT : s.TypeIs (.ref it) "itertools.combinations" := ⟨_, h, rfl⟩
  refine wpAny_pyIter_slot hT cm_iter (wpAny_call_entry cm_iter hT cm_entry_iter ?_ (cm_args_iter _))
  exact wpAny_pure ⟨_, rfl, "itertools.combinations", _, hT, cm_next.lookup, hq⟩
theorem comb_numbers {it pool : Addr} {st : Int} {old : Value} {ix : List Nat} {Q : List Nat → Shared → Prop} (hit : IsComb s.heap it pool st old ix) (h : Q ix s) : wpAny (model prog w) A (Builtin.Itertools.itNumbersFrom (.ref it) 3) Q E s := by
  unfold Builtin.Itertools.itNumbersFrom
  refine wpAny_bind (wpAny_load hit ?_)
  refine wpAny_pure ?_
  have e : ((combF pool st old ix).toArray.toList.drop 3).map (fun | .int n _ => n.toNat | _ => 0) = ix := comb_back
  exact cast (congrArg (fun l => Q l s) e.symm) h
theorem comb_status {it pool : Addr} {st : Int} {old : Value} {ix : List Nat} {Q : Int → Shared → Prop} (hit : IsComb s.heap it pool st old ix) (h : Q st s) : wpAny (model prog w) A (Builtin.Itertools.itIntField (.ref it) 1) Q E s := by
  unfold Builtin.Itertools.itIntField
  exact wpAny_bind (wpAny_field hit rfl (x := rawInt st) rfl (wpAny_pure h))
theorem comb_pool {pool : Addr} {us : Array Value} {Q : Array Value → Shared → Prop} (hp : s.heap.IsTuple pool us) (h : Q us s) : wpAny (model prog w) A (Builtin.Itertools.itPoolItems (.ref pool)) Q E s := by
  obtain ⟨o, ho, _, n, hd⟩ := hp
  unfold Builtin.Itertools.itPoolItems
  exact wpAny_bind (wpAny_seqItems ho hd (wpAny_pure h))
/-- the pick is handed out -/
theorem comb_hand {it pool : Addr} {us : Array Value} {st : Int} {old : Value} {ix jx : List Nat} {Q : Fin → Shared → Prop} {pk : Value → List Nat → Sem Value} (hpk : pk = fun p l => Builtin.Itertools.itPoolItems p >>= fun items => newTuple (l.map fun i => items.getD i .none))
    (hit : IsComb s.heap it pool st old ix) (hp : s.heap.IsTuple pool us) (hl : jx.length ≤ 1000)
    (hQ : ∀ h', IsComb h' it pool st (.ref s.heap.objs.size) ix → h'.get? s.heap.objs.size = some { cls := .type "tuple", data := .seq (jx.map fun i => us.getD i .none).toArray } → (∀ b o, b ≠ it → s.heap.get? b = some o → h'.get? b = some o) → Q (.done (.ret (.ref s.heap.objs.size))) { s with heap := h' }) :
    wpAny (model prog w) A (do
      let result ← pk (.ref pool) jx
      let before ← field (.ref it) 2
      setField (.ref it) 2 result
      letGo [before] [result]
      ret result) Q E s := by
  subst hpk
  refine wpAny_bind (wpAny_bind (comb_pool hp ?_))
  unfold newTuple
  refine wpAny_newObj_type ?_ (by show _ ≤ sizeLine; simp; exact Nat.le_trans hl (by decide))
  have hit1 := Heap.get?_push_of_some (h := s.heap) { cls := .type "tuple", data := .seq (jx.map fun i => us.getD i .none).toArray } hit
  refine wpAny_bind (wpAny_field hit1 rfl (x := old) rfl ?_)
  refine wpAny_bind (wpAny_setField hit1 rfl (by simp [combF]) ?_)
  refine wpAny_bind (wpAny_letGo ?_)
  refine wpAny_pure (hQ _ ?_ ?_ ?_)
  · have := Heap.get?_update_self (Obj.mapFields (·.setIfInBounds 2 (.ref s.heap.objs.size))) hit1 rfl
    exact this
  · have ne : it ≠ s.heap.objs.size := Nat.ne_of_lt (Heap.lt_size hit)
    rw [Heap.get?_update_other _ _ ne]
    exact Heap.get?_push_size _ rfl
  · intro b o hb ho
    rw [Heap.get?_update_other _ _ (Ne.symm hb)]
    exact Heap.get?_push_of_some _ ho
theorem comb_set {h : Heap} {it pool : Addr} {st st' : Int} {old : Value} {ix : List Nat} (hit : IsComb h it pool st old ix) : IsComb (h.update it (Obj.mapFields (·.setIfInBounds 1 (rawInt st')))) it pool st' old ix := by
  have := Heap.get?_update_self (Obj.mapFields (·.setIfInBounds 1 (rawInt st'))) hit rfl
  exact this
theorem comb_next0 {it pool : Addr} {us : Array Value} {old : Value} {ix : List Nat} {Q : Option Value → Shared → Prop} (hit : IsComb s.heap it pool 0 old ix) (hp : s.heap.IsTuple pool us) (hne : pool ≠ it) (hl : ix.length ≤ 1000)
    (hQ : ∀ h', IsComb h' it pool 1 (.ref s.heap.objs.size) ix → h'.get? s.heap.objs.size = some { cls := .type "tuple", data := .seq (ix.map fun i => us.getD i .none).toArray } → (∀ b o, b ≠ it → s.heap.get? b = some o → h'.get? b = some o) → Q (some (.ref s.heap.objs.size)) { s with heap := h' }) :
    wpAny (model prog w) A (pyNext (.ref it)) Q E s := by
  have hT : s.TypeIs (.ref it) "itertools.combinations" := ⟨_, hit, rfl⟩
  unfold pyNext
  refine wpAny_bind (wpAny_attempt (wpAny_callSpecial?_slot (name := Str.ofString "__next__") hT cm_next (wpAny_call_entry cm_next hT cm_entry_next ?_ (cm_args_next _))))
  show wpAny _ _ (field (.ref it) 0 >>= _) _ _ s
  refine wpAny_bind (wpAny_field hit rfl (x := .ref pool) rfl ?_)
  refine wpAny_bind (m := Builtin.Itertools.itNumbersFrom _ _) (comb_numbers hit ?_)
  refine wpAny_bind (m := Builtin.Itertools.itIntField _ _) (comb_status hit ?_)
  refine wpAny_bind (m := setField _ _ _) (wpAny_setField hit rfl (by simp [combF]) ?_)
  have other : ∀ b o, b ≠ it → s.heap.get? b = some o → (s.heap.update it (Obj.mapFields (·.setIfInBounds 1 (rawInt 1)))).get? b = some o := fun b o hb ho => by rw [Heap.get?_update_other _ _ (Ne.symm hb)]; exact ho
  have hp1 : (s.heap.update it (Obj.mapFields (·.setIfInBounds 1 (rawInt 1)))).IsTuple pool us := by
    obtain ⟨o, ho, h1, h2⟩ := hp
    exact ⟨o, other _ _ hne ho, h1, h2⟩
  have sz : (s.heap.update it (Obj.mapFields (·.setIfInBounds 1 (rawInt 1)))).objs.size = s.heap.objs.size := by simp
  refine comb_hand (s := { s with heap := s.heap.update it (Obj.mapFields (·.setIfInBounds 1 (rawInt 1))) }) rfl (comb_set hit) hp1 hl fun h' g1 g2 g3 => ⟨_, rfl, wpAny_pure ?_⟩
  rw [sz] at g1 g2
  show Q (some (.ref (s.heap.update it (Obj.mapFields (·.setIfInBounds 1 (rawInt 1)))).objs.size)) _
  rw [sz]
  exact hQ h' g1 g2 fun b o hb ho => g3 b o hb (other b o hb ho)
theorem comb_ix {h : Heap} {it pool : Addr} {st : Int} {old : Value} {ix jx : List Nat} (hit : IsComb h it pool st old ix) : IsComb (h.update it (Obj.mapFields (fun fs => fs.extract 0 3 ++ (jx.map fun (n : Nat) => rawInt n).toArray))) it pool st old jx := by
  have := Heap.get?_update_self (Obj.mapFields (fun fs => fs.extract 0 3 ++ (jx.map fun (n : Nat) => rawInt n).toArray)) hit rfl
  have e : (combF pool st old ix).toArray.extract 0 3 ++ (jx.map fun (n : Nat) => rawInt n).toArray = (combF pool st old jx).toArray := by
    apply Array.ext'
    simp [combF]
  unfold IsComb
  rw [this]
  exact congrArg (fun a => some ({ cls := .type "itertools.combinations", data := .fields a } : Obj)) e
theorem comb_next1 {it pool : Addr} {us : Array Value} {old : Value} {ix jx : List Nat} {Q : Option Value → Shared → Prop} (hit : IsComb s.heap it pool 1 old ix) (hp : s.heap.IsTuple pool us) (hne : pool ≠ it) (hj : nxt us.size ix = some jx) (hl : jx.length ≤ 1000)
    (hQ : ∀ h', IsComb h' it pool 1 (.ref s.heap.objs.size) jx → h'.get? s.heap.objs.size = some { cls := .type "tuple", data := .seq (jx.map fun i => us.getD i .none).toArray } → (∀ b o, b ≠ it → s.heap.get? b = some o → h'.get? b = some o) → Q (some (.ref s.heap.objs.size)) { s with heap := h' }) :
    wpAny (model prog w) A (pyNext (.ref it)) Q E s := by
  have hT : s.TypeIs (.ref it) "itertools.combinations" := ⟨_, hit, rfl⟩
  unfold pyNext
  refine wpAny_bind (wpAny_attempt (wpAny_callSpecial?_slot (name := Str.ofString "__next__") hT cm_next (wpAny_call_entry cm_next hT cm_entry_next ?_ (cm_args_next _))))
  show wpAny _ _ (field (.ref it) 0 >>= _) _ _ s
  refine wpAny_bind (wpAny_field hit rfl (x := .ref pool) rfl ?_)
  refine wpAny_bind (m := Builtin.Itertools.itNumbersFrom _ _) (comb_numbers hit ?_)
  refine wpAny_bind (m := Builtin.Itertools.itIntField _ _) (comb_status hit ?_)
  refine wpAny_bind (m := Builtin.Itertools.itPoolItems _) (comb_pool hp ?_)
  split
  · rename_i kx hk
    cases hj.symm.trans hk
    refine wpAny_bind (m := Builtin.Itertools.itSetNumbersFrom _ _ _) ?_
    unfold Builtin.Itertools.itSetNumbersFrom
    refine wpAny_updateFields (f := fun fs => fs.extract 0 3 ++ (jx.map fun (n : Nat) => rawInt n).toArray) hit rfl ?_ (by
      have h3 : (1000 : Nat) ≤ sizeLine := by decide
      simp [combF]
      omega)
    have other : ∀ b o, b ≠ it → s.heap.get? b = some o → (s.heap.update it (Obj.mapFields (fun fs => fs.extract 0 3 ++ (jx.map fun (n : Nat) => rawInt n).toArray))).get? b = some o := fun b o hb ho => by rw [Heap.get?_update_other _ _ (Ne.symm hb)]; exact ho
    have hp1 : (s.heap.update it (Obj.mapFields (fun fs => fs.extract 0 3 ++ (jx.map fun (n : Nat) => rawInt n).toArray))).IsTuple pool us := by
      obtain ⟨o, ho, h1, h2⟩ := hp
      exact ⟨o, other _ _ hne ho, h1, h2⟩
    have sz : (s.heap.update it (Obj.mapFields (fun fs => fs.extract 0 3 ++ (jx.map fun (n : Nat) => rawInt n).toArray))).objs.size = s.heap.objs.size := by simp
    refine comb_hand (s := { s with heap := s.heap.update it (Obj.mapFields (fun fs => fs.extract 0 3 ++ (jx.map fun (n : Nat) => rawInt n).toArray)) }) rfl (comb_ix hit) hp1 hl fun h' g1 g2 g3 => ⟨_, rfl, wpAny_pure ?_⟩
    rw [sz] at g1 g2
    show Q (some (.ref (s.heap.update it (Obj.mapFields (fun fs => fs.extract 0 3 ++ (jx.map fun (n : Nat) => rawInt n).toArray))).objs.size)) _
    rw [sz]
    exact hQ h' g1 g2 fun b o hb ho => g3 b o hb (other b o hb ho)
  · rename_i hk
    cases hj.symm.trans hk
theorem comb_stop {it pool : Addr} {us : Array Value} {old : Value} {ix : List Nat} {Q : Option Value → Shared → Prop} (hh : A.handled = none) (hit : IsComb s.heap it pool 1 old ix) (hp : s.heap.IsTuple pool us) (hj : nxt us.size ix = none)
    (hQ : ∀ h', Heap.ExtBut it s.heap h' → Q none { s with heap := h' }) :
    wpAny (model prog w) A (pyNext (.ref it)) Q E s := by
  have hT : s.TypeIs (.ref it) "itertools.combinations" := ⟨_, hit, rfl⟩
  unfold pyNext
  refine wpAny_bind (wpAny_attempt (wpAny_callSpecial?_slot (name := Str.ofString "__next__") hT cm_next (wpAny_call_entry cm_next hT cm_entry_next ?_ (cm_args_next _))))
  show wpAny _ _ (field (.ref it) 0 >>= _) _ _ s
  refine wpAny_bind (wpAny_field hit rfl (x := .ref pool) rfl ?_)
  refine wpAny_bind (m := Builtin.Itertools.itNumbersFrom _ _) (comb_numbers hit ?_)
  refine wpAny_bind (m := Builtin.Itertools.itIntField _ _) (comb_status hit ?_)
  refine wpAny_bind (m := Builtin.Itertools.itPoolItems _) (comb_pool hp ?_)
  split
  · rename_i kx hk
    cases hj.symm.trans hk
  · refine wpAny_bind (m := setField _ _ _) (wpAny_setField hit rfl (by simp [combF]) ?_)
    show wpAny _ _ (newExc (.type "StopIteration") [] >>= fun e => raiseNew e) _ _ _
    refine wpAny_bind ?_
    simp only [newExc, newTuple]
    refine wpAny_bind (wpAny_newObj_type ?_ (by size_fits))
    refine wpAny_bind (m := firstArgMember _ _) (wpAny_of_eq (a := Value.none) (by first | rfl | (simp only [firstArgMember]; rfl)) ?_)
    refine wpAny_newObj_type ?_ (by size_fits)
    refine wpAny_raiseNew_none hh ?_
    refine wpAny_bind (wpAny_isInstance (T := "StopIteration") (b := true) ⟨_, Heap.get?_push_size _ rfl, rfl⟩ isSubtype_stop (wpAny_pure (hQ _ ?_)))
    exact ((Heap.SameBut.update ..).extBut.push _).push _
end
end Dn
set_option Elab.async false
set_option linter.all false
set_option maxRecDepth 100000
namespace Dn
open PySem
theorem comb_bind (a b : Value) : Builtin.Itertools.itBindNamed "combinations" ["iterable", "r"] 2 2 [a, b] [] = pure [some a, some b] := by rfl
theorem comb_class (a b : Value) : Builtin.Itertools.itClassAndRest "combinations" ⟨[.type "itertools.combinations", a, b], []⟩ = pure (.type "itertools.combinations", [a, b]) := by
  rfl
theorem comb_size {r : Nat} {t : Tok} (h : r ≤ 1000) {M : Model} {A : Around} {E : Value → Shared → Prop} {s : Shared} {Q : Int → Shared → Prop} (hq : Q r s) : wpAny M A (Builtin.Itertools.itSsizeArg (.int r t)) Q E s := by
  unfold Builtin.Itertools.itSsizeArg
  refine wpAny_bind (wpAny_of_eq (a := (r : Int)) (by rfl) ?_)
  have e : ((r : Int) < -(2 ^ 63) || decide ((r : Int) ≥ 2 ^ 63)) = false := by simp; omega
  show wpAny _ _ (if ((r : Int) < -(2 ^ 63) || decide ((r : Int) ≥ 2 ^ 63)) = true then _ else _) _ _ _
  rw [if_neg (by rw [e]; simp)]
  exact wpAny_pure hq
/-- the new object and its pool -/
theorem comb_made {l : Addr} {us : List Value} {o : Obj} {n : Nat} {T : String} {r : Nat} {t : Tok} (hT : T = "list" ∨ T = "tuple") (hc : o.cls = .type T) (hd : o.data = .seq us.toArray n) (hr : r ≤ us.length) (hl : us.length ≤ 1000) :
    Meets (Builtin.«itertools.combinations.__new__» ⟨[.type "itertools.combinations", .ref l, .int r t], []⟩) (fun _ End z => z.heap.get? l = some o ∧
      ∀ h1 : Heap, (∀ b x, z.heap.get? b = some x → h1.get? b = some x) → End (.ok (.ret (.ref (h1.objs.size + 1)))) { z with heap := (h1.push { cls := .type "tuple", data := .seq us.toArray }).push { cls := .type "itertools.combinations", data := .fields (combF h1.objs.size 0 .none (List.range r)).toArray } }) := by
  refine .of_wp fun prog w A End z hz => ?_
  obtain ⟨hst, hend⟩ := hz
  have small : (1000 : Nat) ≤ sizeLine := by decide
  refine wpAny_bind ?_
  refine wpAny_bind (wpAny_of_eq (comb_class _ _) ?_)
  refine wpAny_bind (wpAny_of_eq (comb_bind _ _) ?_)
  refine wpAny_bind (comb_size (by omega) ?_)
  refine wpAny_bind (wpAny_collect_seq l hT hst hc hd (fun h1 keep => ?_) (by simp; omega))
  have e0 : ¬ ((r : Int) < 0) := by omega
  have e1 : Builtin.Itertools.itTooMany (r : Int) = false := by
    unfold Builtin.Itertools.itTooMany
    simp
    omega
  simp only []
  rw [if_neg e0, if_neg (by rw [e1]; simp)]
  unfold newTuple
  refine wpAny_bind (wpAny_newObj_type ?_ (by show _ ≤ sizeLine; simp; omega))
  refine wpAny_pure ?_
  have e2 : ¬ ((r : Int).toNat > us.toArray.toList.length) := by simp; omega
  have e3 : Builtin.Itertools.itNewRecord (.type "itertools.combinations") ([.ref h1.objs.size, rawInt (if (r : Int).toNat > us.toArray.toList.length then 2 else 0), .none] ++ (List.range (r : Int).toNat).map fun (i : Nat) => rawInt i) = newObj (.type "itertools.combinations") (.fields (combF h1.objs.size 0 .none (List.range r)).toArray) := by
    unfold Builtin.Itertools.itNewRecord
    rw [cm_hasDict, if_neg e2]
    simp [combF]
  simp only []
  rw [e3]
  refine wpAny_bind (wpAny_newObj_type ?_ (by
    have e6 : (combF h1.objs.size 0 .none (List.range r)).toArray.size = r + 3 := by simp [combF]
    show (combF h1.objs.size 0 .none (List.range r)).toArray.size ≤ sizeLine + 2
    rw [e6]
    have : r ≤ 1000 := Nat.le_trans hr hl
    have s2 : (2000 : Nat) ≤ sizeLine := by decide
    omega))
  refine wpAny_pure ⟨_, rfl, ?_⟩
  have e4 : us.toArray.toList.toArray = us.toArray := by simp
  rw [e4]
  have e5 : (h1.push { cls := .type "tuple", data := .seq us.toArray }).objs.size = h1.objs.size + 1 := Heap.size_push ..
  rw [e5]
  exact hend h1 keep
theorem comb_call {prog : Program} {w : World} {A : Around} {E : Value → Shared → Prop} {z : Shared} {l : Addr} {us : List Value} {o : Obj} {n : Nat} {T : String} {r : Nat} {t : Tok} {Q : Value → Shared → Prop} (hT : T = "list" ∨ T = "tuple") (ho : z.heap.get? l = some o) (hc : o.cls = .type T) (hd : o.data = .seq us.toArray n) (hr : r ≤ us.length) (hl : us.length ≤ 1000)
    (k : ∀ h1 h2 : Heap, (∀ b x, z.heap.get? b = some x → h1.get? b = some x) → (∀ b x, h1.get? b = some x → h2.get? b = some x) → IsComb h2 (h1.objs.size + 1) h1.objs.size 0 .none (List.range r) → h2.IsTuple h1.objs.size us.toArray → Q (.ref (h1.objs.size + 1)) { z with heap := h2 }) :
    wpAny (model prog w) A (call (.type "itertools.combinations") [.ref l, .int r t]) Q E z := by
  refine callType_new cm_called (by decide) (cm_typeCall _ _) (cm_newCall _ _) (fun x => cm_args_init x _ _) cm_entry_new (comb_made hT hc hd hr hl) ⟨ho, fun h1 keep => ?_⟩
  have e5 : (h1.push { cls := .type "tuple", data := .seq us.toArray }).objs.size = h1.objs.size + 1 := Heap.size_push ..
  have stands : IsComb ((h1.push { cls := .type "tuple", data := .seq us.toArray }).push { cls := .type "itertools.combinations", data := .fields (combF h1.objs.size 0 .none (List.range r)).toArray }) (h1.objs.size + 1) h1.objs.size 0 .none (List.range r) := by
    rw [← e5]
    exact Heap.get?_push_size _ rfl
  exact ⟨⟨_, stands, rfl⟩, k h1 _ keep (fun b x hb => Heap.get?_push_of_some _ (Heap.get?_push_of_some _ hb)) stands ⟨_, Heap.get?_push_of_some _ (Heap.get?_push_size _ rfl), rfl, _, rfl⟩⟩
end Dn
set_option Elab.async false
set_option linter.all false
set_option maxRecDepth 100000
namespace Dn
/-- all picks of so many things, in the order of their numbers -/
def combs {α : Type} : List α → Nat → List (List α)
  | _, 0 => [[]]
  | [], _ + 1 => []
  | x :: xs, r + 1 => (combs xs r).map (x :: ·) ++ combs xs (r + 1)
def chainOk (n : Nat) : List (List Nat) → Bool
  | [] => true
  | [a] => nxt n a == none
  | a :: b :: t => nxt n a == some b && chainOk n (b :: t)
def combI (n r : Nat) : List (List Nat) := combs (List.range n) r
def combOk (n r : Nat) : Bool := (combI n r)[0]? == some (List.range r) && chainOk n (combI n r) && (combI n r).all fun l => l.length == r && l.all fun i => decide (i < n)
theorem comb_all : ∀ n, n < 11 → ∀ r, r < n + 1 → combOk n r = true := by decide +kernel
theorem chain_at {n : Nat} : ∀ {L : List (List Nat)} {i : Nat} {a : List Nat}, chainOk n L = true → L[i]? = some a → nxt n a = L[i + 1]?
  | [], _, _, _, h => by simp at h
  | [x], 0, a, c, h => by
    simp at h
    subst h
    simpa [chainOk] using c
  | [x], i + 1, a, c, h => by simp at h
  | x :: y :: t, 0, a, c, h => by
    simp at h
    subst h
    simp [chainOk] at c
    simp [c.1]
  | x :: y :: t, i + 1, a, c, h => by
    simp [chainOk] at c
    have := chain_at (L := y :: t) (i := i) c.2 (by simpa using h)
    simpa using this
section
variable {n r : Nat}
theorem comb_first (hn : n ≤ 10) (hr : r ≤ n) : (combI n r)[0]? = some (List.range r) := by
  have := comb_all n (by omega) r (by omega)
  simp only [combOk, Bool.and_eq_true, beq_iff_eq] at this
  exact this.1.1
theorem comb_step (hn : n ≤ 10) (hr : r ≤ n) {i : Nat} {a : List Nat} (h : (combI n r)[i]? = some a) : nxt n a = (combI n r)[i + 1]? := by
  have := comb_all n (by omega) r (by omega)
  simp only [combOk, Bool.and_eq_true, beq_iff_eq] at this
  exact chain_at this.1.2 h
theorem comb_in (hn : n ≤ 10) (hr : r ≤ n) {a : List Nat} (h : a ∈ combI n r) : a.length = r ∧ ∀ i ∈ a, i < n := by
  have := comb_all n (by omega) r (by omega)
  simp only [combOk, Bool.and_eq_true, beq_iff_eq, List.all_eq_true, decide_eq_true_eq] at this
  exact this.2 a h
end
theorem combs_map {α β : Type} {f : α → β} : ∀ {xs : List α} {r : Nat}, combs (xs.map f) r = (combs xs r).map (List.map f)
  | _, 0 => by simp [combs]
  | [], r + 1 => by simp [combs]
  | x :: xs, r + 1 => by
    simp only [List.map_cons, combs, combs_map (xs := xs), List.map_append, List.map_map]
    rfl
theorem combs_ix {α : Type} {xs : List α} {d : α} {r : Nat} : combs xs r = (combI xs.length r).map (List.map fun i => xs.getD i d) := by
  unfold combI
  rw [← combs_map]
  congr 1
  refine List.ext_getElem? fun i => ?_
  rw [List.getElem?_map]
  by_cases hi : i < xs.length
  · rw [List.getElem?_range hi]
    simp [List.getElem?_eq_getElem hi]
  · rw [List.getElem?_eq_none (by omega), List.getElem?_eq_none (by simp; omega)]
    rfl
end Dn
set_option Elab.async false
set_option linter.all false
set_option maxRecDepth 100000
namespace Dn
open PySem PySem.Spec PyProof.Rows L2
open Evl (Ex Ex.refl Ex.trans Ex.new fresh_back ex_l ex_t ex_rd)
def pickV (xs : List V) (ix : List Nat) : List V := ix.map fun i => xs.getD i .non
theorem vals_pick {xs : List V} {us : List Value} (h : Vals xs us) : ∀ {ix : List Nat}, (∀ i ∈ ix, i < xs.length) → Vals (pickV xs ix) (ix.map fun i => us.toArray.getD i .none)
  | [], _ => .nil
  | i :: ix, hi => by
    have h0 := hi i List.mem_cons_self
    obtain ⟨u, eu, ru⟩ := h.get (List.getElem?_eq_getElem h0)
    have e1 : xs.getD i .non = xs[i] := by simp [List.getElem?_eq_getElem h0]
    have e2 : us.toArray.getD i .none = u := by
      rw [Array.getD_eq_getD_getElem?]
      simp [eu]
    show Vals (xs.getD i .non :: pickV xs ix) (us.toArray.getD i .none :: ix.map fun i => us.toArray.getD i .none)
    rw [e1, e2]
    exact .cons ru (vals_pick h fun j hj => hi j (List.mem_cons_of_mem _ hj))
/-- the picks of so many of these, each a new tuple -/
def ItCm (r : Nat) (xs : List V) : It where
  go i _ := i < (combI xs.length r).length
  yld i H v H2 := ∃ N ob ix, v = .ref N ∧ ob.dict = none ∧ H N = none ∧ (combI xs.length r)[i]? = some ix ∧ H2 = upd H N (.frz ob (.tup (pickV xs ix)))
  stop i _ := i = (combI xs.length r).length
theorem turn_comb {P : Program} {w : World} {K : PySem.W.Frag} {tg : Expr} {r : Nat} {xs : List V} {us : List Value} (pool it : Addr) (rel : Vals xs us) (hr : r ≤ xs.length) (hn : xs.length ≤ 10) (ne : pool ≠ it) :
    Turn P w K tg (ItCm r xs) [it, pool] it (fun i h => (∃ st old ix, IsComb h it pool st old ix ∧ ((i = 0 ∧ st = 0 ∧ ix = List.range r) ∨ ∃ k, i = k + 1 ∧ st = 1 ∧ (combI xs.length r)[k]? = some ix)) ∧ h.IsTuple pool us.toArray) where
  mem := List.mem_cons_self
  obj := by
    rintro i h ⟨⟨st, old, ix, c, _⟩, ⟨o, ho, _, n, hd⟩⟩ b hb
    rcases two_of hb with rfl | rfl
    · exact ⟨_, c, fun v q => nomatch q⟩
    · exact ⟨o, ho, fun v q => by rw [hd] at q; cases q⟩
  keep := by
    rintro i h h2 ⟨⟨st, old, ix, c, z⟩, ⟨o, ho, hc, hd⟩⟩ k
    exact ⟨⟨st, old, ix, k it (by simp) _ c, z⟩, ⟨o, k pool (by simp) _ ho, hc, hd⟩⟩
  item := by
    intro X hP hw hK hc i pins s σ H E I hf st hgo
    subst hP hw hK
    obtain ⟨⟨st, old, ix, c, z⟩, hp⟩ := st
    have len := rel.length
    obtain ⟨jx, hj⟩ : ∃ jx, (combI xs.length r)[i]? = some jx := ⟨_, List.getElem?_eq_getElem hgo⟩
    obtain ⟨j1, j2⟩ := comb_in hn hr (List.mem_of_getElem? hj)
    have it_old : it < s.heap.objs.size := Heap.lt_size c
    have po_old : pool < s.heap.objs.size := let ⟨_, ho, _⟩ := hp; Heap.lt_size ho
    have fin : ∀ h', IsComb h' it pool 1 (.ref s.heap.objs.size) jx → h'.get? s.heap.objs.size = some { cls := .type "tuple", data := .seq (jx.map fun i => us.toArray.getD i .none).toArray } → (∀ b o, b ≠ it → s.heap.get? b = some o → h'.get? b = some o) →
        ∃ u, some (Value.ref s.heap.objs.size) = some u ∧ wpAny (model X.prog X.w) X.A (letOwnedTupleGo tg (.ref it) u) (fun _ s2 => ∃ x H', Inv X pins σ H' s2 ∧ RelV x u ∧ (ItCm r xs).yld i H x H' ∧ ((∃ st old ix, IsComb s2.heap it pool st old ix ∧ ((i + 1 = 0 ∧ st = 0 ∧ ix = List.range r) ∨ ∃ k, i + 1 = k + 1 ∧ st = 1 ∧ (combI xs.length r)[k]? = some ix)) ∧ s2.heap.IsTuple pool us.toArray) ∧ ∀ b ∈ [it, pool], H' b = none) E { s with heap := h' } := by
      intro h' g1 g2 g3
      refine ⟨_, rfl, go_of (s := { s with heap := h' }) (n := "itertools.combinations") g1 rfl rfl (by decide) ?_⟩
      have rel2 := vals_pick rel j2
      have new : ObjOk X.prog X.w (upd H s.heap.objs.size (.frz { cls := .type "tuple", data := .seq (jx.map fun i => us.toArray.getD i .none).toArray } (.tup (pickV xs jx)))) h' s.heap.objs.size (.frz { cls := .type "tuple", data := .seq (jx.map fun i => us.toArray.getD i .none).toArray } (.tup (pickV xs jx))) :=
        ⟨g2, by
          have small : (1000 : Nat) ≤ sizeLine := by decide
          show (pickV xs jx).length ≤ sizeLine
          unfold pickV
          rw [List.length_map]
          omega, _, rel2, ⟨_, g2, rfl, _, rfl⟩⟩
      have J : Inv X pins σ (upd H s.heap.objs.size (.frz { cls := .type "tuple", data := .seq (jx.map fun i => us.toArray.getD i .none).toArray } (.tup (pickV xs jx)))) { s with heap := h' } :=
        I.turnedNew (t' := s.toks) (ch := [it, pool]) (fun b o hb e => g3 b o (fun q => hb (by simp [q])) e) hf (Nat.le_refl _) new
      refine ⟨.ref s.heap.objs.size, _, J, rfl, ⟨_, _, jx, rfl, rfl, I.hok.fresh (Nat.le_refl _), hj, rfl⟩, ⟨⟨_, _, jx, g1, .inr ⟨i, rfl, rfl, hj⟩⟩, ?_⟩, fun b hb => ?_⟩
      · obtain ⟨o, ho, h1, h2⟩ := hp
        exact ⟨o, g3 _ _ ne ho, h1, h2⟩
      · rw [upd_ne ((two_of hb).elim (fun q => q ▸ Nat.ne_of_lt it_old) fun q => q ▸ Nat.ne_of_lt po_old)]
        exact (hf b hb).1
    rcases z with ⟨rfl, rfl, rfl⟩ | ⟨k, rfl, rfl, hk⟩
    · have := comb_first hn hr
      rw [hj] at this
      cases this
      exact comb_next0 c hp ne (by simp; omega) fin
    · have e : nxt us.toArray.size ix = some jx := by
        rw [List.size_toArray, ← len, comb_step hn hr hk, hj]
      exact comb_next1 c hp ne e (by omega) fin
  done := by
    intro X hP hw hK hc i pins s σ H E I hf st hstop
    subst hP hw hK
    obtain ⟨⟨st, old, ix, c, z⟩, hp⟩ := st
    have len := rel.length
    obtain ⟨f0, f1, _, f3, f4, f5⟩ := hf it (by simp)
    have hstop : i = (combI xs.length r).length := hstop
    have first := comb_first hn hr
    rcases z with ⟨rfl, rfl, rfl⟩ | ⟨k, rfl, rfl, hk⟩
    · rw [List.getElem?_eq_none (by omega)] at first
      cases first
    · have e : nxt us.toArray.size ix = none := by
        rw [List.size_toArray, ← len, comb_step hn hr hk, List.getElem?_eq_none (by omega)]
      exact comb_stop (I.ok.hd hc) c hp e fun h' eb => ⟨rfl, I.turned (t' := s.toks) (fun b o hb q => eb b o hb q) f0 f1 f3 f4 f5⟩
  self := fun A i s Q E st k => let ⟨⟨_, _, _, c, _⟩, _⟩ := st; comb_iter c k
end Dn
set_option Elab.async false
set_option linter.all false
set_option maxRecDepth 100000
namespace Dn
open PySem PySem.Spec PyProof.Rows L2
open Evl (Ex Ex.refl Ex.trans Ex.new fresh_back ex_l ex_t ex_rd)
def iComb (K : PySem.W.Frag) (ta : TA) : TI := fun σ H R => ta σ H fun vs H1 => ∃ (ka : Bool) (a : Addr) (r : Nat) (xs : List V), vs = [.ref a, .int (r : Int)] ∧ SqK K H1 ka a xs ∧ r ≤ xs.length ∧ xs.length ≤ 10 ∧ R (ItCm r xs) H1
theorem pi_comb {X : Cx} {e e2 : Expr} {ta : TA} {x : Str} {p pos : Pos} {tg : Expr} (hg : Gl X x) (hm : X.mg x = some (.type "itertools.combinations")) (ha : PA X [e, e2] ta) (hd : (x == ("__debug__" : Str)) = false := by decide)
    (hs : starEach [e, e2] X.env = (false, eval e X.env) :: starEach [e2] X.env := by rfl) (hpl : (backTo pos (starEach [e2] X.env)).any (·.1) = false := by rfl) :
    PI X tg (.Call (.Name x p) [e, e2] [] pos) (iComb X.K ta) := by
  refine ⟨fun pins s σ H R I h => ?_⟩
  refine Call_ (ld_glob I hg hm (PyProof.Rows.callWith_type1 (thn (ha.run pos pins s σ H _ I h) fun us s1 ⟨vs, H1, J, r1, q1⟩ => ?_) hs hpl) hd)
  obtain ⟨ka, a, r, xs, rfl, sx, hr, hn, q1⟩ := q1
  cases r1 with
  | cons q rr =>
    cases rr with
    | cons q' rr =>
      cases rr
      cases q
      obtain ⟨t, rfl⟩ := q'
      obtain ⟨us, rel, has, la, _⟩ := Inv_seqK J sx
      have len := rel.length
      obtain ⟨o, T, n, hT, ho, hc, hd⟩ : ∃ (o : Obj) (T : String) (n : Nat), (T = "list" ∨ T = "tuple") ∧ s1.heap.get? a = some o ∧ o.cls = .type T ∧ o.data = .seq us.toArray n := by
        cases ka with
        | true => obtain ⟨o, h1, h2, n, h3⟩ := has; exact ⟨o, _, n, .inl rfl, h1, h2, h3⟩
        | false => obtain ⟨o, h1, h2, n, h3⟩ := has; exact ⟨o, _, n, .inr rfl, h1, h2, h3⟩
      refine comb_call hT ho hc hd (by omega) (by omega) fun h1 h2 k1 k2 cb tp => comb_iter cb ?_
      have J1 : Inv X pins σ H1 { s1 with heap := h1 } := J.kept (t' := s1.toks) k1
      have J2 : Inv X pins σ H1 { s1 with heap := h2 } := J.kept (t' := s1.toks) fun b ob e => k2 b ob (k1 b ob e)
      refine ⟨_, [h1.objs.size + 1, h1.objs.size], _, _, H1, rfl, J2, turn_comb h1.objs.size (h1.objs.size + 1) rel hr hn (Nat.ne_of_lt (Nat.lt_succ_self _)), ⟨⟨_, _, _, cb, .inl ⟨rfl, rfl, rfl⟩⟩, tp⟩, fun b hb => ?_, q1⟩
      have hle : h1.objs.size ≤ b := by rcases two_of hb with rfl | rfl <;> omega
      exact J1.fpOk hle (J1.hok.fresh hle)
section
variable {K : PySem.W.Frag} {I : Hp}
def pickD (xs : List PyData) (ix : List Nat) : List PyData := ix.map fun i => xs.getD i .none
theorem dq_pick {vs : List V} {xs : List PyData} (h : DqAll K I vs xs) : ∀ {ix : List Nat}, (∀ i ∈ ix, i < vs.length) → DqAll K I (pickV vs ix) (pickD xs ix)
  | [], _ => .nil
  | i :: ix, hi => by
    have h0 := hi i List.mem_cons_self
    obtain ⟨d, h1, h2⟩ := h.getV (List.getElem?_eq_getElem h0)
    have e1 : vs.getD i .non = vs[i] := by simp [List.getElem?_eq_getElem h0]
    have e2 : xs.getD i .none = d := by simp [h1]
    show DqAll K I (vs.getD i .non :: pickV vs ix) (xs.getD i .none :: pickD xs ix)
    rw [e1, e2]
    exact .cons h2 (dq_pick h fun j hj => hi j (List.mem_cons_of_mem _ hj))
def dIComb (fa : DA) : DI := fun ε C => (fa ε C).bind fun (rs, C1) => match rs with
  | [a, .d (.int r)] => (rdS a C1).bind fun xs => if 0 ≤ r ∧ r ≤ xs.length ∧ xs.length ≤ 10 then some (⟨(combs xs r.toNat).map .tuple, []⟩, C1) else none
  | _ => none
theorem si_comb {ta : TA} {fa : DA} (h : SA K ta fa) : SI K (iComb K ta) (dIComb fa) := fun σ H ε C μ I w s it C' e R q => by
  obtain ⟨⟨rs, C1⟩, e1, e⟩ := Option.bind_eq_some_iff.mp e
  refine h σ H ε C μ I w s rs C1 e1 _ fun J ν H1 vs l1 w1 r1 => ?_
  simp only at e
  split at e
  · rename_i a r
    cases r1 with
    | cons ra r3 =>
      cases r3 with
      | cons rb r4 =>
        cases r4
        obtain ⟨xs, ea, e⟩ := Option.bind_eq_some_iff.mp e
        split at e
        · rename_i hh
          obtain ⟨h0, h1, h2⟩ := hh
          cases e
          have rb := rv_int rb
          subst rb
          obtain ⟨p, ws, rfl, sx, da⟩ := rdS_ok w1 ra ea
          have len := da.len
          have er : ((r.toNat : Nat) : Int) = r := Int.toNat_of_nonneg h0
          have sk : ∃ ka, SqK K H1 ka p ws := by
            rcases sx with sx | sx
            · exact ⟨true, sx⟩
            · exact ⟨false, sx⟩
          obtain ⟨ka, sk⟩ := sk
          refine ⟨ka, p, r.toNat, ws, by rw [er], sk, by omega, by omega, q J ν H1 _ l1 w1 fun L ξ C2 H2 l w2 p2 => ?_⟩
          have ec : (combs xs r.toNat).map PyData.tuple = (combI ws.length r.toNat).map fun ix => .tuple (pickD xs ix) := by
            rw [combs_ix (d := PyData.none), List.map_map, len]
            rfl
          have hstop : ((combs xs r.toNat).map PyData.tuple).length = (combI ws.length r.toNat).length := by rw [ec, List.length_map]
          refine ⟨fun i x hx => ?_, hstop⟩
          have hx : ((combs xs r.toNat).map PyData.tuple)[i]? = some x := hx
          rw [ec, List.getElem?_map] at hx
          obtain ⟨ix, hix, rfl⟩ := Option.map_eq_some_iff.mp hx
          refine ⟨(List.getElem?_eq_some_iff.mp hix).1, fun v H' y => ?_⟩
          obtain ⟨N, ob, jx, rfl, hob, hN, hjx, rfl⟩ := y
          cases hix.symm.trans hjx
          obtain ⟨_, hin⟩ := comb_in (n := ws.length) (r := r.toNat) (by omega) (by omega) (List.mem_of_getElem? hix)
          obtain ⟨w3, l3, h3⟩ := w2.newD (o := .frz ob (.tup (pickV ws ix))) hN
          exact ⟨_, l3, w3, Dq.tup (SqN.of hob h3) ((dq_pick da hin).up (l.trans l3).ex)⟩
        · cases e
  · cases e
end
end Dn
set_option Elab.async false
set_option linter.all false
set_option maxRecDepth 100000
namespace Dn
open PySem PySem.Spec PyProof.Rows L2
/-! ### xs[::-1] of a list; the picks of so many of a list -/
section
variable {B : FB} {A : AE} {f g : DE} {o o' : Option PyData}
def pComb : PyData → PyData → Option (List PyData)
  | x, .int r => (itemsOf x).bind fun xs => if 0 ≤ r ∧ r ≤ xs.length ∧ xs.length ≤ 10 then some ((combs xs r.toNat).map .tuple) else none
  | _, _ => none
theorem rdS_items {x : PyData} {C : CS} {xs : List PyData} (h : itemsOf x = some xs) : rdS (.d x) C = some xs := by
  unfold itemsOf at h
  split at h <;> first | (cases h; rfl) | cases h
theorem ji_comb (h : JD B A f o) (k : JD B A g o') : JI B A (dIComb (dCons f (dCons g dNil))) (o.bind fun x => o'.bind fun y => pComb x y) := fun ε C R zs e => by
  obtain ⟨x, e1, e⟩ := Option.bind_eq_some_iff.mp e
  obtain ⟨y, e2, e⟩ := Option.bind_eq_some_iff.mp e
  obtain ⟨G, h1⟩ := h ε C R x e1
  obtain ⟨G2, h2⟩ := k ε (C ++ G) R.app y e2
  unfold pComb at e
  split at e
  · rename_i x r
    obtain ⟨xs, e3, e⟩ := Option.bind_eq_some_iff.mp e
    refine ⟨G ++ G2, ?_⟩
    unfold dIComb dCons
    simp only [h1, h2, Option.bind_some, dNil, rdS_items e3, List.append_assoc]
    split at e
    · rename_i hh
      cases e
      rw [if_pos hh]
    · cases e
  · cases e
/-! a proof with what it tells, said -/
theorem saidD (o : Option PyData) (h : JD B A f o) : JD B A f o := h
theorem saidB {σ : Type} {s : DS} {mk : σ → AE} (o : Option (Step σ)) (h : JB B A s mk o) : JB B A s mk o := h
end
end Dn
set_option Elab.async false
set_option linter.all false
set_option maxRecDepth 100000
set_option maxHeartbeats 4000000
namespace Pg
open PySem PySem.Spec PyProof.Rows L2 Dn
noncomputable def b_picks_of : DS := (dRet (dFz (dLc2 (diRng1 (dCons (dFz (dOp gAddV (dCall (gLook fLen) (dCons (dVar 0) dNil)) (dC (.int 1)))) dNil)) [1, 2] (dName 1) dYes (dIComb (dCons (dVar 0) (dCons (dVar 1) dNil))) [2] (dName 2) dYes (dVar 2))))
noncomputable def m_picks_of : DF := runF 1 3 b_picks_of
noncomputable def q_picks_of (v_numbers : PyData) : Option (Step Unit) :=
    (((((((((((((some v_numbers)).bind (pLook fLen))).bind fun x => ((some (PyData.int 1))).bind fun y => pAdd x y)).bind pRange1)).bind fun items => pCap (pFlat (fun x => (pU1 x).bind fun v_size => pIf (some true) (((((some v_numbers)).bind fun x => ((some v_size)).bind fun y => pComb x y)).bind fun its => pSel (fun x1 => (pU1 x1).bind fun v_pick => pIf (some true) (((some v_pick)).map some) (some none)) its) (some [])) items))).map PyData.list)).bind fun x => some (.inr x))
@[irreducible] noncomputable def p_picks_of (v_numbers : PyData) : Option PyData := pRun (q_picks_of v_numbers)
theorem jb_picks_of (v_numbers : PyData) (B : FB) : JB B [some (.dat v_numbers), none, none] b_picks_of (fun _ : Unit => ([none, none, none] : AE)) (q_picks_of v_numbers) := by
  unfold q_picks_of b_picks_of
  exact (jb_ret (jd_fz ((jm_lc2 (A1 := (fun v_size => ([some (.dat v_numbers), some (.dat v_size), none] : AE))) (A2 := (fun v_size v_pick => ([some (.dat v_numbers), some (.dat v_size), some (.dat v_pick)] : AE))) (ji_rng1 (jd_fz (jf_op opb_add (((jd_call1 f1_look (((jd_var rfl)).toF).toO)).toF).toO ((jd_c).toF).toO))) (jg_1 (fun _ => rfl)) (fun v_size => jt_yes) (fun v_size => (ji_comb (jd_var rfl) (jd_var rfl))) (fun v_size => (jg_1 (fun _ => rfl))) (fun v_size v_pick => jt_yes) (fun v_size v_pick => ((jd_var rfl)).toF))).toF))
theorem br_picks_of (v_numbers : PyData) (C : CS) (r : PyData) (h : p_picks_of v_numbers = some r) : m_picks_of [.d v_numbers] C = some (.d r, C) := br_run (n := 1) (m := 3) (body := b_picks_of) (args := [v_numbers]) (A := [some (.dat v_numbers), none, none]) (os := q_picks_of v_numbers) rfl rfl (fun B => jb_picks_of v_numbers B) (by unfold p_picks_of at h; exact h)
noncomputable def b_all_picks : DS := (dRet (dCall m_picks_of (dCons (dFz (dLstRg (dVar 0))) dNil)))
noncomputable def m_all_picks : DF := runF 1 1 b_all_picks
noncomputable def q_all_picks (v_many : PyData) : Option (Step Unit) :=
    ((((((((((some v_many)).bind pTupRg).bind itemsOf)).map PyData.list)).bind fun a2_0 => p_picks_of a2_0)).bind fun x => some (.inr x))
@[irreducible] noncomputable def p_all_picks (v_many : PyData) : Option PyData := pRun (q_all_picks v_many)
theorem jb_all_picks (v_many : PyData) (B : FB) : JB B [some (.dat v_many)] b_all_picks (fun _ : Unit => ([none] : AE)) (q_all_picks v_many) := by
  unfold q_all_picks b_all_picks
  exact (jb_ret (jd_call (P := (fun xs => match xs with | [b1_0] => p_picks_of b1_0 | _ => none)) (ja_cons (jd_fz ((jm_lstRg (jd_var rfl))).toF) ja_nil) (fun xs C r hl hp => match xs, hl, hp with | [b1_0], _, hp => br_picks_of b1_0 C r hp)))
theorem br_all_picks (v_many : PyData) (C : CS) (r : PyData) (h : p_all_picks v_many = some r) : m_all_picks [.d v_many] C = some (.d r, C) := br_run (n := 1) (m := 1) (body := b_all_picks) (args := [v_many]) (A := [some (.dat v_many)]) (os := q_all_picks v_many) rfl rfl (fun B => jb_all_picks v_many B) (by unfold p_all_picks at h; exact h)
noncomputable def b_is_lit : DS := (dRet (dOp gNeP (dOp gIx (dCall Pg.m_burnt_tales (dCons (dVar 0) (dCons (dVar 1) dNil))) (dVar 2)) (dCall gTup dNil)))
noncomputable def m_is_lit : DF := runF 3 3 b_is_lit
noncomputable def q_is_lit (v_house v_lights v_candle : PyData) : Option (Step Unit) :=
    (((((((((some v_house)).bind fun a7_0 => ((some v_lights)).bind fun a7_1 => Pg.p_burnt_tales a7_0 a7_1)).bind fun x => ((some v_candle)).bind fun y => pIx x y)).bind fun x => ((some (.tuple []))).bind fun y => pNe x y)).bind fun x => some (.inr x))
@[irreducible] noncomputable def p_is_lit (v_house v_lights v_candle : PyData) : Option PyData := pRun (q_is_lit v_house v_lights v_candle)
theorem jb_is_lit (v_house v_lights v_candle : PyData) (B : FB) : JB B [some (.dat v_house), some (.dat v_lights), some (.dat v_candle)] b_is_lit (fun _ : Unit => ([none, none, none] : AE)) (q_is_lit v_house v_lights v_candle) := by
  unfold q_is_lit b_is_lit
  exact (jb_ret (jd_op opd_ne (((jd_op opd_ix (((jd_call (P := (fun xs => match xs with | [b6_0, b6_1] => Pg.p_burnt_tales b6_0 b6_1 | _ => none)) (ja_cons (jd_var rfl) (ja_cons (jd_var rfl) ja_nil)) (fun xs C r hl hp => match xs, hl, hp with | [b6_0, b6_1], _, hp => Pg.br_burnt_tales b6_0 b6_1 C r hp))).toF).toO (((jd_var rfl)).toF).toO)).toF).toO (((jd_tup ja_nil (by decide))).toF).toO))
theorem br_is_lit (v_house v_lights v_candle : PyData) (C : CS) (r : PyData) (h : p_is_lit v_house v_lights v_candle = some r) : m_is_lit [.d v_house, .d v_lights, .d v_candle] C = some (.d r, C) := br_run (n := 3) (m := 3) (body := b_is_lit) (args := [v_house, v_lights, v_candle]) (A := [some (.dat v_house), some (.dat v_lights), some (.dat v_candle)]) (os := q_is_lit v_house v_lights v_candle) rfl rfl (fun B => jb_is_lit v_house v_lights v_candle B) (by unfold p_is_lit at h; exact h)
noncomputable def b_fewest_cords : DS := (dSeq (dDrop (dFz (dCall Pg.m_need_lights (dCons (dVar 0) (dCons (dVar 1) dNil)))))
    (dSeq (dDrop (dFz (dCall Pg.m_need_candle (dCons (dVar 0) (dCons (dVar 2) dNil)))))
    (dSeq (dFor (diSeq (dCall m_all_picks (dCons (dCall (gLook fLen) (dCons (dOp gIx (dVar 0) (dC (.int 1))) dNil)) dNil))) (dName 4) (dIfS (dTidyT (dTest (dOp gEqP (dCall m_is_lit (dCons (dCall Pg.m_cut_off (dCons (dVar 0) (dCons (dVar 4) dNil))) (dCons (dVar 1) (dCons (dVar 2) dNil)))) (dVar 3)))) (dRet (dVar 4)) dNext))
    (dRet (dC .none)))))
noncomputable def m_fewest_cords : DF := runF 4 5 b_fewest_cords
noncomputable def q_fewest_cords (v_house v_lights v_candle v_lit : PyData) : Option (Step Unit) :=
    (((((some v_house)).bind fun a10_0 => ((some v_lights)).bind fun a10_1 => Pg.p_need_lights a10_0 a10_1)).bind fun _ =>
    (((((some v_house)).bind fun a12_0 => ((some v_candle)).bind fun a12_1 => Pg.p_need_candle a12_0 a12_1)).bind fun _ =>
    (((((((((((some v_house)).bind fun x => ((some (PyData.int 1))).bind fun y => pIx x y)).bind (pLook fLen))).bind fun a14_0 => p_all_picks a14_0)).bind itemsOf)).bind fun items => stepBind (pFor (σ := Unit) (fun x _ => (pU1 x).bind fun v_cords =>
    (pIf ((((((((some v_house)).bind fun a17_0 => ((some v_cords)).bind fun a17_1 => Pg.p_cut_off a17_0 a17_1)).bind fun a18_0 => ((some v_lights)).bind fun a18_1 => ((some v_candle)).bind fun a18_2 => p_is_lit a18_0 a18_1 a18_2)).bind fun x => ((some v_lit)).bind fun y => pEq x y).bind asB) (((some v_cords)).bind fun x => some (.inr x))
    (some (.inl ())))) items ()) fun _ =>
    (((some PyData.none)).bind fun x => some (.inr x)))))
@[irreducible] noncomputable def p_fewest_cords (v_house v_lights v_candle v_lit : PyData) : Option PyData := pRun (q_fewest_cords v_house v_lights v_candle v_lit)
theorem jb_fewest_cords (v_house v_lights v_candle v_lit : PyData) (B : FB) : JB B [some (.dat v_house), some (.dat v_lights), some (.dat v_candle), some (.dat v_lit), none] b_fewest_cords (fun _ : Unit => ([none, none, none, none, none] : AE)) (q_fewest_cords v_house v_lights v_candle v_lit) := by
  unfold q_fewest_cords b_fewest_cords
  exact (jb_drop ((jd_call (P := (fun xs => match xs with | [b9_0, b9_1] => Pg.p_need_lights b9_0 b9_1 | _ => none)) (ja_cons (jd_var rfl) (ja_cons (jd_var rfl) ja_nil)) (fun xs C r hl hp => match xs, hl, hp with | [b9_0, b9_1], _, hp => Pg.br_need_lights b9_0 b9_1 C r hp))).toF (jb_drop ((jd_call (P := (fun xs => match xs with | [b11_0, b11_1] => Pg.p_need_candle b11_0 b11_1 | _ => none)) (ja_cons (jd_var rfl) (ja_cons (jd_var rfl) ja_nil)) (fun xs C r hl hp => match xs, hl, hp with | [b11_0, b11_1], _, hp => Pg.br_need_candle b11_0 b11_1 C r hp))).toF (jb_for (mk1 := (fun (_ : Unit) => ([some (.dat v_house), some (.dat v_lights), some (.dat v_candle), some (.dat v_lit), none] : AE))) (A1 := (fun (_ : Unit) v_cords => ([some (.dat v_house), some (.dat v_lights), some (.dat v_candle), some (.dat v_lit), some (.dat v_cords)] : AE))) (ji_seq (jd_call (P := (fun xs => match xs with | [b13_0] => p_all_picks b13_0 | _ => none)) (ja_cons (jd_call1 f1_look (((jd_op opd_ix (((jd_var rfl)).toF).toO ((jd_c).toF).toO)).toF).toO) ja_nil) (fun xs C r hl hp => match xs, hl, hp with | [b13_0], _, hp => br_all_picks b13_0 C r hp))) (.keep _ (.keep _ (.keep _ (.keep _ (.keep _ .nil))))) (fun _ => (jg_1 (fun _ => rfl))) (fun _ v_cords => (jb_one (jb_ifr (jt_test (jd_op opd_eq (((jd_call (P := (fun xs => match xs with | [b15_0, b15_1, b15_2] => p_is_lit b15_0 b15_1 b15_2 | _ => none)) (ja_cons (jd_call (P := (fun xs => match xs with | [b16_0, b16_1] => Pg.p_cut_off b16_0 b16_1 | _ => none)) (ja_cons (jd_var rfl) (ja_cons (jd_var rfl) ja_nil)) (fun xs C r hl hp => match xs, hl, hp with | [b16_0, b16_1], _, hp => Pg.br_cut_off b16_0 b16_1 C r hp)) (ja_cons (jd_var rfl) (ja_cons (jd_var rfl) ja_nil))) (fun xs C r hl hp => match xs, hl, hp with | [b15_0, b15_1, b15_2], _, hp => br_is_lit b15_0 b15_1 b15_2 C r hp))).toF).toO (((jd_var rfl)).toF).toO)) (jb_ret (jd_var rfl)) (nn_bind fun _ => nn_ret) (jb_next (.keep _ (.keep _ (.keep _ (.keep _ (.drop _ .nil))))))))) (fun _ => (jb_ret jd_c)))))
theorem br_fewest_cords (v_house v_lights v_candle v_lit : PyData) (C : CS) (r : PyData) (h : p_fewest_cords v_house v_lights v_candle v_lit = some r) : m_fewest_cords [.d v_house, .d v_lights, .d v_candle, .d v_lit] C = some (.d r, C) := br_run (n := 4) (m := 5) (body := b_fewest_cords) (args := [v_house, v_lights, v_candle, v_lit]) (A := [some (.dat v_house), some (.dat v_lights), some (.dat v_candle), some (.dat v_lit), none]) (os := q_fewest_cords v_house v_lights v_candle v_lit) rfl rfl (fun B => jb_fewest_cords v_house v_lights v_candle v_lit B) (by unfold p_fewest_cords at h; exact h)
noncomputable def b_darkening : DS := (dRet (dCall m_fewest_cords (dCons (dVar 0) (dCons (dVar 1) (dCons (dVar 2) (dCons (dC (.bool false)) dNil))))))
noncomputable def m_darkening : DF := runF 3 3 b_darkening
noncomputable def q_darkening (v_house v_lights v_candle : PyData) : Option (Step Unit) :=
    (((((some v_house)).bind fun a20_0 => ((some v_lights)).bind fun a20_1 => ((some v_candle)).bind fun a20_2 => ((some (PyData.bool false))).bind fun a20_3 => p_fewest_cords a20_0 a20_1 a20_2 a20_3)).bind fun x => some (.inr x))
@[irreducible] noncomputable def p_darkening (v_house v_lights v_candle : PyData) : Option PyData := pRun (q_darkening v_house v_lights v_candle)
theorem jb_darkening (v_house v_lights v_candle : PyData) (B : FB) : JB B [some (.dat v_house), some (.dat v_lights), some (.dat v_candle)] b_darkening (fun _ : Unit => ([none, none, none] : AE)) (q_darkening v_house v_lights v_candle) := by
  unfold q_darkening b_darkening
  exact (jb_ret (jd_call (P := (fun xs => match xs with | [b19_0, b19_1, b19_2, b19_3] => p_fewest_cords b19_0 b19_1 b19_2 b19_3 | _ => none)) (ja_cons (jd_var rfl) (ja_cons (jd_var rfl) (ja_cons (jd_var rfl) (ja_cons jd_c ja_nil)))) (fun xs C r hl hp => match xs, hl, hp with | [b19_0, b19_1, b19_2, b19_3], _, hp => br_fewest_cords b19_0 b19_1 b19_2 b19_3 C r hp)))
theorem br_darkening (v_house v_lights v_candle : PyData) (C : CS) (r : PyData) (h : p_darkening v_house v_lights v_candle = some r) : m_darkening [.d v_house, .d v_lights, .d v_candle] C = some (.d r, C) := br_run (n := 3) (m := 3) (body := b_darkening) (args := [v_house, v_lights, v_candle]) (A := [some (.dat v_house), some (.dat v_lights), some (.dat v_candle)]) (os := q_darkening v_house v_lights v_candle) rfl rfl (fun B => jb_darkening v_house v_lights v_candle B) (by unfold p_darkening at h; exact h)
noncomputable def b_lighting : DS := (dRet (dCall m_fewest_cords (dCons (dVar 0) (dCons (dVar 1) (dCons (dVar 2) (dCons (dC (.bool true)) dNil))))))
noncomputable def m_lighting : DF := runF 3 3 b_lighting
noncomputable def q_lighting (v_house v_lights v_candle : PyData) : Option (Step Unit) :=
    (((((some v_house)).bind fun a22_0 => ((some v_lights)).bind fun a22_1 => ((some v_candle)).bind fun a22_2 => ((some (PyData.bool true))).bind fun a22_3 => p_fewest_cords a22_0 a22_1 a22_2 a22_3)).bind fun x => some (.inr x))
@[irreducible] noncomputable def p_lighting (v_house v_lights v_candle : PyData) : Option PyData := pRun (q_lighting v_house v_lights v_candle)
theorem jb_lighting (v_house v_lights v_candle : PyData) (B : FB) : JB B [some (.dat v_house), some (.dat v_lights), some (.dat v_candle)] b_lighting (fun _ : Unit => ([none, none, none] : AE)) (q_lighting v_house v_lights v_candle) := by
  unfold q_lighting b_lighting
  exact (jb_ret (jd_call (P := (fun xs => match xs with | [b21_0, b21_1, b21_2, b21_3] => p_fewest_cords b21_0 b21_1 b21_2 b21_3 | _ => none)) (ja_cons (jd_var rfl) (ja_cons (jd_var rfl) (ja_cons (jd_var rfl) (ja_cons jd_c ja_nil)))) (fun xs C r hl hp => match xs, hl, hp with | [b21_0, b21_1, b21_2, b21_3], _, hp => br_fewest_cords b21_0 b21_1 b21_2 b21_3 C r hp)))
theorem br_lighting (v_house v_lights v_candle : PyData) (C : CS) (r : PyData) (h : p_lighting v_house v_lights v_candle = some r) : m_lighting [.d v_house, .d v_lights, .d v_candle] C = some (.d r, C) := br_run (n := 3) (m := 3) (body := b_lighting) (args := [v_house, v_lights, v_candle]) (A := [some (.dat v_house), some (.dat v_lights), some (.dat v_candle)]) (os := q_lighting v_house v_lights v_candle) rfl rfl (fun B => jb_lighting v_house v_lights v_candle B) (by unfold p_lighting at h; exact h)
noncomputable def b_lit_by_cut : DS := (dSeq (dDrop (dFz (dCall Pg.m_need_lights (dCons (dVar 0) (dCons (dVar 1) dNil)))))
    (dSeq (dAsg (dFz (dCall Pg.m_burnt_tales (dCons (dVar 0) (dCons (dVar 1) dNil)))) (dName 2))
    (dSeq (dFor (diRng1 (dCons (dCall (gLook fLen) (dCons (dOp gIx (dVar 0) (dC (.int 1))) dNil)) dNil)) (dName 3) (dSeq (dAsg (dFz (dCall Pg.m_burnt_tales (dCons (dCall Pg.m_cut_off (dCons (dVar 0) (dCons (dCall gTup (dCons (dVar 3) dNil)) dNil))) (dCons (dVar 1) dNil)))) (dName 4))
    (dFor (dIEnum (dCons (dVar 2) dNil)) (dgTup 2 (dgCons (dName 5) (dgCons (dName 6) dgNil))) (dIfS (dTidyT (dAnd (dTest (dOp gEqP (dVar 6) (dCall gTup dNil))) (dTest (dOp gNeP (dOp gIx (dVar 4) (dVar 5)) (dCall gTup dNil))))) (dRet (dCall gTup (dCons (dVar 3) (dCons (dVar 5) dNil)))) dNext))))
    (dRet (dC .none)))))
noncomputable def m_lit_by_cut : DF := runF 2 7 b_lit_by_cut
noncomputable def q_lit_by_cut (v_house v_lights : PyData) : Option (Step Unit) :=
    (((((some v_house)).bind fun a24_0 => ((some v_lights)).bind fun a24_1 => Pg.p_need_lights a24_0 a24_1)).bind fun _ =>
    (((((some v_house)).bind fun a26_0 => ((some v_lights)).bind fun a26_1 => Pg.p_burnt_tales a26_0 a26_1)).bind fun v_tales =>
    (((((((((some v_house)).bind fun x => ((some (PyData.int 1))).bind fun y => pIx x y)).bind (pLook fLen))).bind pRange1)).bind fun items => stepBind (pFor (σ := Unit) (fun x _ => (pU1 x).bind fun v_cord =>
    (((((((some v_house)).bind fun a30_0 => ((((some v_cord)).bind fun a29_0 => some (.tuple [a29_0]))).bind fun a30_1 => Pg.p_cut_off a30_0 a30_1)).bind fun a31_0 => ((some v_lights)).bind fun a31_1 => Pg.p_burnt_tales a31_0 a31_1)).bind fun v_cut =>
    (((((some v_tales)).bind pEnum)).bind fun items => stepBind (pFor (σ := Unit) (fun x _ => (pU2 x).bind fun (v_candle, v_tale) =>
    (pIf (pAnd ((((some v_tale)).bind fun x => ((some (.tuple []))).bind fun y => pEq x y).bind asB) ((((((some v_cut)).bind fun x => ((some v_candle)).bind fun y => pIx x y)).bind fun x => ((some (.tuple []))).bind fun y => pNe x y).bind asB)) (((((some v_cord)).bind fun a34_0 => ((some v_candle)).bind fun a34_1 => some (.tuple [a34_0, a34_1]))).bind fun x => some (.inr x))
    (some (.inl ())))) items ()) fun _ =>
    (some (.inl ()))))) items ()) fun _ =>
    (((some PyData.none)).bind fun x => some (.inr x)))))
@[irreducible] noncomputable def p_lit_by_cut (v_house v_lights : PyData) : Option PyData := pRun (q_lit_by_cut v_house v_lights)
theorem jb_lit_by_cut (v_house v_lights : PyData) (B : FB) : JB B [some (.dat v_house), some (.dat v_lights), none, none, none, none, none] b_lit_by_cut (fun _ : Unit => ([none, none, none, none, none, none, none] : AE)) (q_lit_by_cut v_house v_lights) := by
  unfold q_lit_by_cut b_lit_by_cut
  exact (jb_drop ((jd_call (P := (fun xs => match xs with | [b23_0, b23_1] => Pg.p_need_lights b23_0 b23_1 | _ => none)) (ja_cons (jd_var rfl) (ja_cons (jd_var rfl) ja_nil)) (fun xs C r hl hp => match xs, hl, hp with | [b23_0, b23_1], _, hp => Pg.br_need_lights b23_0 b23_1 C r hp))).toF (jb_asg (A' := fun v_tales => ([some (.dat v_house), some (.dat v_lights), some (.dat v_tales), none, none, none, none] : AE)) ((jd_call (P := (fun xs => match xs with | [b25_0, b25_1] => Pg.p_burnt_tales b25_0 b25_1 | _ => none)) (ja_cons (jd_var rfl) (ja_cons (jd_var rfl) ja_nil)) (fun xs C r hl hp => match xs, hl, hp with | [b25_0, b25_1], _, hp => Pg.br_burnt_tales b25_0 b25_1 C r hp))).toF (fun _ => rfl) (fun v_tales => (jb_for (mk1 := (fun (_ : Unit) => ([some (.dat v_house), some (.dat v_lights), some (.dat v_tales), none, none, none, none] : AE))) (A1 := (fun (_ : Unit) v_cord => ([some (.dat v_house), some (.dat v_lights), some (.dat v_tales), some (.dat v_cord), none, none, none] : AE))) (ji_rng1 (jd_call1 f1_look (((jd_op opd_ix (((jd_var rfl)).toF).toO ((jd_c).toF).toO)).toF).toO)) (.keep _ (.keep _ (.keep _ (.keep _ (.keep _ (.keep _ (.keep _ .nil))))))) (fun _ => (jg_1 (fun _ => rfl))) (fun _ v_cord => (jb_asg (A' := fun v_cut => ([some (.dat v_house), some (.dat v_lights), some (.dat v_tales), some (.dat v_cord), some (.dat v_cut), none, none] : AE)) ((jd_call (P := (fun xs => match xs with | [b27_0, b27_1] => Pg.p_burnt_tales b27_0 b27_1 | _ => none)) (ja_cons (jd_call (P := (fun xs => match xs with | [b28_0, b28_1] => Pg.p_cut_off b28_0 b28_1 | _ => none)) (ja_cons (jd_var rfl) (ja_cons (jd_tup (ja_cons (jd_var rfl) ja_nil) (by decide)) ja_nil)) (fun xs C r hl hp => match xs, hl, hp with | [b28_0, b28_1], _, hp => Pg.br_cut_off b28_0 b28_1 C r hp)) (ja_cons (jd_var rfl) ja_nil)) (fun xs C r hl hp => match xs, hl, hp with | [b27_0, b27_1], _, hp => Pg.br_burnt_tales b27_0 b27_1 C r hp))).toF (fun _ => rfl) (fun v_cut => (jb_one (jb_for (mk1 := (fun (_ : Unit) => ([some (.dat v_house), some (.dat v_lights), some (.dat v_tales), some (.dat v_cord), some (.dat v_cut), none, none] : AE))) (A1 := (fun (_ : Unit) (v_candle, v_tale) => ([some (.dat v_house), some (.dat v_lights), some (.dat v_tales), some (.dat v_cord), some (.dat v_cut), some (.dat v_candle), some (.dat v_tale)] : AE))) (ji_enum (jd_var rfl)) (.keep _ (.keep _ (.keep _ (.keep _ (.keep _ (.keep _ (.keep _ .nil))))))) (fun _ => (jg_2 (fun _ _ => rfl))) (fun _ ⟨v_candle, v_tale⟩ => (jb_one (jb_ifr (jt_and (jt_test (jd_op opd_eq (((jd_var rfl)).toF).toO (((jd_tup ja_nil (by decide))).toF).toO)) (jt_test (jd_op opd_ne (((jd_op opd_ix (((jd_var rfl)).toF).toO (((jd_var rfl)).toF).toO)).toF).toO (((jd_tup ja_nil (by decide))).toF).toO))) (jb_ret (jd_tup (ja_cons (jd_var rfl) (ja_cons (jd_var rfl) ja_nil)) (by decide))) (nn_bind fun _ => nn_ret) (jb_next (.keep _ (.keep _ (.keep _ (.keep _ (.keep _ (.drop _ (.drop _ .nil))))))))))) (fun _ => (jb_next (.keep _ (.keep _ (.keep _ (.drop _ (.drop _ (.keep _ (.keep _ .nil)))))))))))))) (fun _ => (jb_ret jd_c))))))
theorem br_lit_by_cut (v_house v_lights : PyData) (C : CS) (r : PyData) (h : p_lit_by_cut v_house v_lights = some r) : m_lit_by_cut [.d v_house, .d v_lights] C = some (.d r, C) := br_run (n := 2) (m := 7) (body := b_lit_by_cut) (args := [v_house, v_lights]) (A := [some (.dat v_house), some (.dat v_lights), none, none, none, none, none]) (os := q_lit_by_cut v_house v_lights) rfl rfl (fun B => jb_lit_by_cut v_house v_lights B) (by unfold p_lit_by_cut at h; exact h)
noncomputable def b_has_light : DS := (dRet (dOp gIn (dVar 1) (dLc (diSeq (dVar 0)) [2, 3] (dgTup 2 (dgCons (dName 2) (dgCons (dName 3) dgNil))) dYes (dVar 2))))
noncomputable def m_has_light : DF := runF 2 4 b_has_light
noncomputable def q_has_light (v_lights v_candle : PyData) : Option (Step Unit) :=
    (((((some v_candle)).bind fun x => ((((((((some v_lights)).bind itemsOf)).bind fun items => pMap (fun x => (pU2 x).bind fun (v_lit, v_beat) => (some v_lit)) items)).map PyData.list)).bind fun y => pIn x y)).bind fun x => some (.inr x))
@[irreducible] noncomputable def p_has_light (v_lights v_candle : PyData) : Option PyData := pRun (q_has_light v_lights v_candle)
theorem jb_has_light (v_lights v_candle : PyData) (B : FB) : JB B [some (.dat v_lights), some (.dat v_candle), none, none] b_has_light (fun _ : Unit => ([none, none, none, none] : AE)) (q_has_light v_lights v_candle) := by
  unfold q_has_light b_has_light
  exact (jb_ret (jd_op opd_inn (((jd_var rfl)).toF).toO (((jm_lc (A1 := (fun (v_lit, v_beat) => ([some (.dat v_lights), some (.dat v_candle), some (.dat v_lit), some (.dat v_beat)] : AE))) (ji_seq (jd_var rfl)) (jg_2 (fun _ _ => rfl)) (fun ⟨v_lit, v_beat⟩ => ((jd_var rfl)).toF))).toF).toO))
theorem br_has_light (v_lights v_candle : PyData) (C : CS) (r : PyData) (h : p_has_light v_lights v_candle = some r) : m_has_light [.d v_lights, .d v_candle] C = some (.d r, C) := br_run (n := 2) (m := 4) (body := b_has_light) (args := [v_lights, v_candle]) (A := [some (.dat v_lights), some (.dat v_candle), none, none]) (os := q_has_light v_lights v_candle) rfl rfl (fun B => jb_has_light v_lights v_candle B) (by unfold p_has_light at h; exact h)
noncomputable def b_dark_by_light : DS := (dSeq (dDrop (dFz (dCall Pg.m_need_lights (dCons (dVar 0) (dCons (dVar 1) dNil)))))
    (dSeq (dAsg (dFz (dCall Pg.m_burnt_tales (dCons (dVar 0) (dCons (dVar 1) dNil)))) (dName 2))
    (dSeq (dFor (diRng1 (dCons (dCall (gLook fLen) (dCons (dOp gIx (dVar 0) (dC (.int 0))) dNil)) dNil)) (dName 3) (dIfS (dTidyT (dNot (dTest (dCall m_has_light (dCons (dVar 1) (dCons (dVar 3) dNil)))))) (dSeq (dAsg (dFz (dCall Pg.m_burnt_tales (dCons (dVar 0) (dCons (dCall gTup (dStar (dVar 1) (dCons (dCall gTup (dCons (dVar 3) (dCons (dC (.int 0)) dNil))) dNil))) dNil)))) (dName 4))
    (dFor (dIEnum (dCons (dVar 2) dNil)) (dgTup 2 (dgCons (dName 5) (dgCons (dName 6) dgNil))) (dIfS (dTidyT (dAnd (dTest (dOp gNeP (dVar 6) (dCall gTup dNil))) (dTest (dOp gEqP (dOp gIx (dVar 4) (dVar 5)) (dCall gTup dNil))))) (dRet (dCall gTup (dCons (dVar 3) (dCons (dVar 5) dNil)))) dNext))) dNext))
    (dRet (dC .none)))))
noncomputable def m_dark_by_light : DF := runF 2 7 b_dark_by_light
noncomputable def q_dark_by_light (v_house v_lights : PyData) : Option (Step Unit) :=
    (((((some v_house)).bind fun a36_0 => ((some v_lights)).bind fun a36_1 => Pg.p_need_lights a36_0 a36_1)).bind fun _ =>
    (((((some v_house)).bind fun a38_0 => ((some v_lights)).bind fun a38_1 => Pg.p_burnt_tales a38_0 a38_1)).bind fun v_tales =>
    (((((((((some v_house)).bind fun x => ((some (PyData.int 0))).bind fun y => pIx x y)).bind (pLook fLen))).bind pRange1)).bind fun items => stepBind (pFor (σ := Unit) (fun x _ => (pU1 x).bind fun v_lit =>
    (stepBind (pIf (pNot (((((some v_lights)).bind fun a40_0 => ((some v_lit)).bind fun a40_1 => p_has_light a40_0 a40_1)).bind asB)) (((((some v_house)).bind fun a44_0 => ((((((some v_lights)).bind itemsOf)).bind fun a43_0 => ((((some v_lit)).bind fun a42_0 => ((some (PyData.int 0))).bind fun a42_1 => some (.tuple [a42_0, a42_1]))).bind fun a43_1 => (if ((a43_0 ++ (a43_1 :: []))).length ≤ 10000 then some (.tuple ((a43_0 ++ (a43_1 :: [])))) else none))).bind fun a44_1 => Pg.p_burnt_tales a44_0 a44_1)).bind fun v_more =>
    (((((some v_tales)).bind pEnum)).bind fun items => stepBind (pFor (σ := Unit) (fun x _ => (pU2 x).bind fun (v_candle, v_tale) =>
    (pIf (pAnd ((((some v_tale)).bind fun x => ((some (.tuple []))).bind fun y => pNe x y).bind asB) ((((((some v_more)).bind fun x => ((some v_candle)).bind fun y => pIx x y)).bind fun x => ((some (.tuple []))).bind fun y => pEq x y).bind asB)) (((((some v_lit)).bind fun a47_0 => ((some v_candle)).bind fun a47_1 => some (.tuple [a47_0, a47_1]))).bind fun x => some (.inr x))
    (some (.inl ())))) items ()) fun _ =>
    (some (.inl ())))) (some (.inl ())) : Option (Step (Unit))) fun _ =>
    (some (.inl ())))) items ()) fun _ =>
    (((some PyData.none)).bind fun x => some (.inr x)))))
@[irreducible] noncomputable def p_dark_by_light (v_house v_lights : PyData) : Option PyData := pRun (q_dark_by_light v_house v_lights)
theorem jb_dark_by_light (v_house v_lights : PyData) (B : FB) : JB B [some (.dat v_house), some (.dat v_lights), none, none, none, none, none] b_dark_by_light (fun _ : Unit => ([none, none, none, none, none, none, none] : AE)) (q_dark_by_light v_house v_lights) := by
  unfold q_dark_by_light b_dark_by_light
  exact (jb_drop ((jd_call (P := (fun xs => match xs with | [b35_0, b35_1] => Pg.p_need_lights b35_0 b35_1 | _ => none)) (ja_cons (jd_var rfl) (ja_cons (jd_var rfl) ja_nil)) (fun xs C r hl hp => match xs, hl, hp with | [b35_0, b35_1], _, hp => Pg.br_need_lights b35_0 b35_1 C r hp))).toF (jb_asg (A' := fun v_tales => ([some (.dat v_house), some (.dat v_lights), some (.dat v_tales), none, none, none, none] : AE)) ((jd_call (P := (fun xs => match xs with | [b37_0, b37_1] => Pg.p_burnt_tales b37_0 b37_1 | _ => none)) (ja_cons (jd_var rfl) (ja_cons (jd_var rfl) ja_nil)) (fun xs C r hl hp => match xs, hl, hp with | [b37_0, b37_1], _, hp => Pg.br_burnt_tales b37_0 b37_1 C r hp))).toF (fun _ => rfl) (fun v_tales => (jb_for (mk1 := (fun (_ : Unit) => ([some (.dat v_house), some (.dat v_lights), some (.dat v_tales), none, none, none, none] : AE))) (A1 := (fun (_ : Unit) v_lit => ([some (.dat v_house), some (.dat v_lights), some (.dat v_tales), some (.dat v_lit), none, none, none] : AE))) (ji_rng1 (jd_call1 f1_look (((jd_op opd_ix (((jd_var rfl)).toF).toO ((jd_c).toF).toO)).toF).toO)) (.keep _ (.keep _ (.keep _ (.keep _ (.keep _ (.keep _ (.keep _ .nil))))))) (fun _ => (jg_1 (fun _ => rfl))) (fun _ v_lit => (jb_one (jb_if (mk1 := (fun (_ : Unit) => ([some (.dat v_house), some (.dat v_lights), some (.dat v_tales), none, none, none, none] : AE))) (jt_not (jt_test (jd_call (P := (fun xs => match xs with | [b39_0, b39_1] => p_has_light b39_0 b39_1 | _ => none)) (ja_cons (jd_var rfl) (ja_cons (jd_var rfl) ja_nil)) (fun xs C r hl hp => match xs, hl, hp with | [b39_0, b39_1], _, hp => br_has_light b39_0 b39_1 C r hp)))) (jb_asg (A' := fun v_more => ([some (.dat v_house), some (.dat v_lights), some (.dat v_tales), some (.dat v_lit), some (.dat v_more), none, none] : AE)) ((jd_call (P := (fun xs => match xs with | [b41_0, b41_1] => Pg.p_burnt_tales b41_0 b41_1 | _ => none)) (ja_cons (jd_var rfl) (ja_cons (jd_tupS (jo_star (((jd_var rfl)).toF).toO (jo_cons (jd_tup (ja_cons (jd_var rfl) (ja_cons jd_c ja_nil)) (by decide)) ja_nil.toO))) ja_nil)) (fun xs C r hl hp => match xs, hl, hp with | [b41_0, b41_1], _, hp => Pg.br_burnt_tales b41_0 b41_1 C r hp))).toF (fun _ => rfl) (fun v_more => (jb_one (jb_for (mk1 := (fun (_ : Unit) => ([some (.dat v_house), some (.dat v_lights), some (.dat v_tales), some (.dat v_lit), some (.dat v_more), none, none] : AE))) (A1 := (fun (_ : Unit) (v_candle, v_tale) => ([some (.dat v_house), some (.dat v_lights), some (.dat v_tales), some (.dat v_lit), some (.dat v_more), some (.dat v_candle), some (.dat v_tale)] : AE))) (ji_enum (jd_var rfl)) (.keep _ (.keep _ (.keep _ (.keep _ (.keep _ (.keep _ (.keep _ .nil))))))) (fun _ => (jg_2 (fun _ _ => rfl))) (fun _ ⟨v_candle, v_tale⟩ => (jb_one (jb_ifr (jt_and (jt_test (jd_op opd_ne (((jd_var rfl)).toF).toO (((jd_tup ja_nil (by decide))).toF).toO)) (jt_test (jd_op opd_eq (((jd_op opd_ix (((jd_var rfl)).toF).toO (((jd_var rfl)).toF).toO)).toF).toO (((jd_tup ja_nil (by decide))).toF).toO))) (jb_ret (jd_tup (ja_cons (jd_var rfl) (ja_cons (jd_var rfl) ja_nil)) (by decide))) (nn_bind fun _ => nn_ret) (jb_next (.keep _ (.keep _ (.keep _ (.keep _ (.keep _ (.drop _ (.drop _ .nil))))))))))) (fun _ => (jb_next (.keep _ (.keep _ (.keep _ (.drop _ (.drop _ (.keep _ (.keep _ .nil))))))))))))) (jb_next (.keep _ (.keep _ (.keep _ (.drop _ (.keep _ (.keep _ (.keep _ .nil)))))))) (fun _ => (jb_next (.keep _ (.keep _ (.keep _ (.keep _ (.keep _ (.keep _ (.keep _ .nil)))))))))))) (fun _ => (jb_ret jd_c))))))
theorem br_dark_by_light (v_house v_lights : PyData) (C : CS) (r : PyData) (h : p_dark_by_light v_house v_lights = some r) : m_dark_by_light [.d v_house, .d v_lights] C = some (.d r, C) := br_run (n := 2) (m := 7) (body := b_dark_by_light) (args := [v_house, v_lights]) (A := [some (.dat v_house), some (.dat v_lights), none, none, none, none, none]) (os := q_dark_by_light v_house v_lights) rfl rfl (fun B => jb_dark_by_light v_house v_lights B) (by unfold p_dark_by_light at h; exact h)
end Pg
set_option Elab.async false
set_option linter.all false
namespace Dn
/-! ### picks: all of them, the fewest ahead, of as many the least -/
section
variable {α : Type}
theorem combs_mem : ∀ {xs : List α} {r : Nat} {l : List α}, l ∈ combs xs r ↔ l.Sublist xs ∧ l.length = r
  | xs, 0, l => by
    simp only [combs, List.mem_singleton]
    constructor
    · rintro rfl
      exact ⟨List.nil_sublist _, rfl⟩
    · rintro ⟨_, h⟩
      exact List.eq_nil_of_length_eq_zero h
  | [], r + 1, l => by
    simp only [combs, List.not_mem_nil, false_iff, List.sublist_nil]
    rintro ⟨rfl, h⟩
    cases h
  | x :: xs, r + 1, l => by
    simp only [combs, List.mem_append, List.mem_map]
    constructor
    · rintro (⟨a, ha, rfl⟩ | h)
      · obtain ⟨h1, h2⟩ := combs_mem.mp ha
        exact ⟨h1.cons₂ x, by simp [h2]⟩
      · obtain ⟨h1, h2⟩ := combs_mem.mp h
        exact ⟨h1.cons x, h2⟩
    · rintro ⟨h, hl⟩
      cases h with
      | cons _ h => exact .inr (combs_mem.mpr ⟨h, hl⟩)
      | cons_cons _ h => exact .inl ⟨_, combs_mem.mpr ⟨h, by simpa using hl⟩, rfl⟩
end
/-- as tuples are compared -/
def lexL : List Int → List Int → Prop
  | [], b => b ≠ []
  | _ :: _, [] => False
  | x :: a, y :: b => x < y ∨ (x = y ∧ lexL a b)
def ahead (a b : List Int) : Prop := a.length < b.length ∨ (a.length = b.length ∧ lexL a b)
theorem lexL_asymm : ∀ {a b : List Int}, lexL a b → ¬ lexL b a
  | [], [], h, _ => h rfl
  | [], y :: b, _, h => h
  | x :: a, [], h, _ => h
  | x :: a, y :: b, h, k => by
    rcases h with h | ⟨h1, h2⟩ <;> rcases k with k | ⟨k1, k2⟩
    · omega
    · omega
    · omega
    · exact lexL_asymm h2 k2
theorem ahead_asymm {a b : List Int} (h : ahead a b) : ¬ ahead b a := fun k => by
  rcases h with h | ⟨h1, h2⟩ <;> rcases k with k | ⟨k1, k2⟩
  · omega
  · omega
  · omega
  · exact lexL_asymm h2 k2
theorem combs_lex : ∀ {xs : List Int} {r : Nat}, xs.Pairwise (· < ·) → (combs xs r).Pairwise lexL
  | _, 0, _ => by simp [combs]
  | [], r + 1, _ => by simp [combs]
  | x :: xs, r + 1, h => by
    obtain ⟨h1, h2⟩ := List.pairwise_cons.mp h
    simp only [combs]
    rw [List.pairwise_append]
    refine ⟨?_, combs_lex h2, fun a ha b hb => ?_⟩
    · rw [List.pairwise_map]
      exact (combs_lex (r := r) h2).imp fun h => .inr ⟨rfl, h⟩
    · obtain ⟨c, _, rfl⟩ := List.mem_map.mp ha
      obtain ⟨k1, k2⟩ := combs_mem.mp hb
      cases b with
      | nil => cases k2
      | cons y b => exact .inl (h1 y (k1.subset List.mem_cons_self))
/-- all picks of these rising numbers -/
def picksOf (xs : List Int) : List (List Int) := (List.range (xs.length + 1)).flatMap fun r => combs xs r
theorem picks_mem {xs l : List Int} : l ∈ picksOf xs ↔ l.Sublist xs := by
  unfold picksOf
  rw [List.mem_flatMap]
  constructor
  · rintro ⟨r, _, h⟩
    exact (combs_mem.mp h).1
  · intro h
    exact ⟨l.length, List.mem_range.mpr (Nat.lt_succ_of_le h.length_le), combs_mem.mpr ⟨h, rfl⟩⟩
theorem flat_pair {β : Type} {R : List Int → List Int → Prop} {f : β → List (List Int)} : ∀ {rs : List β}, (∀ r ∈ rs, (f r).Pairwise R) → (rs.Pairwise fun r s => ∀ a ∈ f r, ∀ b ∈ f s, R a b) → (rs.flatMap f).Pairwise R
  | [], _, _ => by simp
  | r :: rs, h1, h2 => by
    obtain ⟨h3, h4⟩ := List.pairwise_cons.mp h2
    rw [List.flatMap_cons, List.pairwise_append]
    refine ⟨h1 r List.mem_cons_self, flat_pair (fun s hs => h1 s (List.mem_cons_of_mem _ hs)) h4, fun a ha b hb => ?_⟩
    obtain ⟨s, hs, hb⟩ := List.mem_flatMap.mp hb
    exact h3 s hs a ha b hb
theorem picks_ahead {xs : List Int} (h : xs.Pairwise (· < ·)) : (picksOf xs).Pairwise ahead := by
  unfold picksOf
  refine flat_pair (fun r _ => ?_) ?_
  · have h1 := combs_lex (r := r) h
    refine List.Pairwise.imp_of_mem (fun {a b} ha hb hab => ?_) h1
    exact .inr ⟨by rw [(combs_mem.mp ha).2, (combs_mem.mp hb).2], hab⟩
  · refine List.pairwise_lt_range.imp fun {r s} hrs a ha b hb => ?_
    exact .inl (by rw [(combs_mem.mp ha).2, (combs_mem.mp hb).2]; exact hrs)
/-- the first pick of such a kind -/
def IsFirst (xs : List Int) (p : List Int → Bool) : Option (List Int) → Prop
  | none => ∀ l : List Int, l.Sublist xs → p l = false
  | some a => a.Sublist xs ∧ p a = true ∧ ∀ b : List Int, b.Sublist xs → p b = true → b = a ∨ ahead a b
theorem find_first {xs : List Int} (h : xs.Pairwise (· < ·)) {p : List Int → Bool} : IsFirst xs p ((picksOf xs).find? p) := by
  cases hf : (picksOf xs).find? p with
  | none =>
    intro l hl
    have := List.find?_eq_none.mp hf l (picks_mem.mpr hl)
    simpa using this
  | some a =>
    obtain ⟨ha, as, bs, e, hb⟩ := List.find?_eq_some_iff_append.mp hf
    refine ⟨picks_mem.mp (by rw [e]; simp), ha, fun b hbs hpb => ?_⟩
    have hm := picks_mem.mpr hbs
    have hp := picks_ahead h
    rw [e] at hm hp
    rw [List.pairwise_append] at hp
    rcases List.mem_append.mp hm with hm | hm
    · have := hb b hm
      simp [hpb] at this
    · rcases List.mem_cons.mp hm with rfl | hm
      · exact .inl rfl
      · exact .inr ((List.pairwise_cons.mp hp.2.1).1 b hm)
theorem IsFirst.uniq {xs : List Int} {p : List Int → Bool} {o o' : Option (List Int)} (h : IsFirst xs p o) (h' : IsFirst xs p o') : o = o' := by
  cases o with
  | none =>
    cases o' with
    | none => rfl
    | some a =>
      obtain ⟨h1, h2, _⟩ := h'
      rw [h a h1] at h2
      cases h2
  | some a =>
    obtain ⟨h1, h2, h3⟩ := h
    cases o' with
    | none =>
      rw [h' a h1] at h2
      cases h2
    | some b =>
      obtain ⟨k1, k2, k3⟩ := h'
      rcases h3 b k1 k2 with e | e
      · rw [e]
      · rcases k3 a h1 h2 with f | f
        · rw [f]
        · exact (ahead_asymm e f).elim
end Dn
set_option Elab.async false
set_option linter.all false
set_option maxRecDepth 100000
set_option maxHeartbeats 1000000
namespace Pg
open PySem PySem.Spec PyProof.Rows L2 Dn
/-! ### the fewest cords without which a candle is lit, or is not -/
def intsD (is : List Int) : PyData := .tuple (is.map .int)
def numsTo (m : Nat) : List Int := (List.range m).map fun (i : Nat) => (i : Int)
theorem numsTo_rise {m : Nat} : (numsTo m).Pairwise (· < ·) := by
  unfold numsTo
  rw [List.pairwise_map]
  exact List.pairwise_lt_range.imp fun h => by omega
theorem numsTo_mem {m : Nat} {i : Int} : i ∈ numsTo m ↔ 0 ≤ i ∧ i < m := by
  unfold numsTo
  rw [List.mem_map]
  constructor
  · rintro ⟨j, hj, rfl⟩
    have := List.mem_range.mp hj
    omega
  · rintro ⟨h0, h1⟩
    exact ⟨i.toNat, List.mem_range.mpr (by omega), by omega⟩
theorem numsTo_len {m : Nat} : (numsTo m).length = m := by simp [numsTo]
theorem pick_rise {m : Nat} {l : List Int} (h : l.Sublist (numsTo m)) : l.Pairwise (· < ·) ∧ (∀ i ∈ l, 0 ≤ i ∧ i < m) ∧ l.length ≤ m := ⟨numsTo_rise.sublist h, fun i hi => numsTo_mem.mp (h.subset hi), by have := h.length_le; rwa [numsTo_len] at this⟩
theorem rng_numsTo {m : Nat} : rng 0 m = (numsTo m).map .int := by simp [rng, numsTo]
theorem flat_len : ∀ m, m < 11 → ((List.range (m + 1)).flatMap fun r => combI m r).length ≤ 2000 := by decide +kernel
theorem picks_len {xs : List Int} (h : xs.length ≤ 10) : (picksOf xs).length ≤ 2000 := by
  have := flat_len xs.length (by omega)
  have e : picksOf xs = ((List.range (xs.length + 1)).flatMap fun r => combI xs.length r).map (List.map fun i => xs.getD i 0) := by
    unfold picksOf
    rw [List.map_flatMap]
    exact congrArg (fun f => List.flatMap f (List.range (xs.length + 1))) (funext fun r => combs_ix)
  rw [e, List.length_map]
  exact this
theorem range1_nat {m : Nat} (h : m ≤ 1000) : pRange1 (.int (m : Int)) = some (rng 0 m) := by
  have hc : (-1000000000000000 : Int) ≤ (m : Int) ∧ (m : Int) ≤ 1000000000000000 := by omega
  unfold pRange1
  simp only [if_pos hc, Int.toNat_natCast]
theorem tupRg_nat {m : Nat} (h : m ≤ 1000) : pTupRg (.int (m : Int)) = some (.tuple (rng 0 m)) := by
  have hc : (0 : Int) ≤ (m : Int) ∧ (m : Int) ≤ 10000 := by omega
  unfold pTupRg
  simp only [if_pos hc, Int.toNat_natCast]
theorem picks_of_eq {xs : List Int} (hx : xs.length ≤ 10) : p_picks_of (.list (xs.map .int)) = some (.list ((picksOf xs).map intsD)) := by
  unfold p_picks_of q_picks_of
  simp only [Option.bind_some, pLen_l, List.length_map]
  have ea : pAdd (.int (xs.length : Int)) (.int 1) = some (.int ((xs.length : Int) + 1)) := pAdd_int
  rw [ea, Option.bind_some]
  have e1 : pRange1 (.int ((xs.length : Int) + 1)) = some ((List.range (xs.length + 1)).map fun (i : Nat) => PyData.int i) := by
    have := range1_nat (m := xs.length + 1) (by omega)
    rw [Int.natCast_add] at this
    rw [show ((1 : Nat) : Int) = 1 from rfl] at this
    rw [this]
    simp [rng]
  rw [e1, Option.bind_some]
  rw [pFlat_eq (enc := fun (i : Nat) => PyData.int i) (F := fun r => (combs xs r).map intsD) (fun r hr => ?_)]
  rotate_left
  · have hr := List.mem_range.mp hr
    have e2 : pComb (.list (xs.map .int)) (.int (r : Int)) = some ((combs xs r).map intsD) := by
      unfold pComb
      simp only [itemsOf_l, Option.bind_some, List.length_map]
      rw [if_pos (by omega), Int.toNat_natCast, combs_map, List.map_map]
      rfl
    simp only [pU1_eq, Option.bind_some, e2, pIf_true]
    rw [pSel_eq (enc := intsD) (F := fun l => some (intsD l)) (fun l _ => rfl)]
    simp
  have e3 : ((List.range (xs.length + 1)).map fun r => (combs xs r).map intsD).flatten = (picksOf xs).map intsD := by
    unfold picksOf
    rw [List.map_flatMap, List.flatMap_def]
  have := picks_len hx
  have small : ((picksOf xs).map intsD).length ≤ 10000 := by rw [List.length_map]; omega
  unfold pCap
  rw [e3, Option.bind_some, if_pos small]
  simp only [Option.map_some, Option.bind_some, pRun_some]
theorem all_picks_eq {m : Nat} (hm : m ≤ 10) : p_all_picks (.int (m : Int)) = some (.list ((picksOf (numsTo m)).map intsD)) := by
  unfold p_all_picks q_all_picks
  have e1 := tupRg_nat (m := m) (by omega)
  rw [Option.bind_some, e1, Option.bind_some, itemsOf_t, Option.map_some, Option.bind_some, rng_numsTo, picks_of_eq (by rw [numsTo_len]; exact hm)]
  simp only [Option.bind_some, pRun_some]
variable {ts : List Int} {cs : List Cord} {ls : List Lgt} {t : List Setg} {x : Int}
noncomputable def litIn (ts : List Int) (cs : List Cord) (ls : List Lgt) (x : Int) : Bool := !(Bn.taleAt (tales ts cs ls) x).isEmpty
theorem is_lit_eq (h : Hs ts cs) (l : Ls ts ls) (x0 : 0 ≤ x) (x1 : x < ts.length) : p_is_lit (houseD ts cs) (lightsD ls) (.int x) = some (.bool (litIn ts cs ls x)) := by
  unfold p_is_lit q_is_lit
  simp only [Option.bind_some, burnt_tales_eq h l, pIx_t, at_tales h l x0 x1, (empty_t (t := Bn.taleAt (tales ts cs ls) x)).2]
  rfl
noncomputable def fewest (ts : List Int) (cs : List Cord) (ls : List Lgt) (x : Int) (b : Bool) : Option (List Int) := (picksOf (numsTo cs.length)).find? fun is => litIn ts (leave cs is) ls x == b
def fewD (o : Option (List Int)) : PyData := match o with
  | none => .none
  | some is => intsD is
theorem fewest_eq (h : Hs ts cs) (l : Ls ts ls) (x0 : 0 ≤ x) (x1 : x < ts.length) {b : Bool} : p_fewest_cords (houseD ts cs) (lightsD ls) (.int x) (.bool b) = some (fewD (fewest ts cs ls x b)) := by
  unfold p_fewest_cords q_fewest_cords
  have c10 := h.c10
  have ci : pIx (houseD ts cs) (.int 1) = some (.tuple (cs.map cordD)) := pIx_houseD1
  simp only [Option.bind_some, need_lights_eq h l, need_candle_eq h x0 x1, ci, pLen_t, List.length_map, all_picks_eq c10, itemsOf_l]
  unfold fewest
  refine eq_of_wo ?_
  rw [wo_pRun, wo_stepBind]
  refine wo_for_ret (fun items _ => ∃ rest, items = rest.map intsD ∧ (∀ is ∈ rest, is.Sublist (numsTo cs.length)) ∧ (picksOf (numsTo cs.length)).find? (fun is => litIn ts (leave cs is) ls x == b) = rest.find? fun is => litIn ts (leave cs is) ls x == b) ?_ ?_ ⟨_, rfl, fun is hi => picks_mem.mp hi, rfl⟩
  · rintro y xs st ⟨rest, e1, hs, e2⟩
    cases rest with
    | nil => cases e1
    | cons is rest =>
      rw [List.map_cons] at e1
      obtain ⟨rfl, rfl⟩ := List.cons.inj e1
      obtain ⟨r1, r2, r3⟩ := pick_rise (hs is (by simp))
      have cut : p_cut_off (houseD ts cs) (intsD is) = some (houseD ts (leave cs is)) := cut_off_eq (by omega) (by omega)
      have eb : pEq (.bool (litIn ts (leave cs is) ls x)) (.bool b) = some (.bool (litIn ts (leave cs is) ls x == b)) := by
        cases litIn ts (leave cs is) ls x <;> cases b <;> rfl
      simp only [pU1_eq, Option.bind_some, cut, is_lit_eq (hs_leave h) l x0 x1, eb, asB_bool]
      rw [List.find?_cons] at e2
      cases hb : (litIn ts (leave cs is) ls x == b) with
      | true =>
        rw [hb] at e2
        rw [pIf_true, wo_some]
        refine .inr ⟨_, rfl, ?_⟩
        rw [e2]
        rfl
      | false =>
        rw [hb] at e2
        rw [pIf_false, wo_some]
        exact .inl ⟨(), rfl, rest, rfl, fun js hj => hs js (by simp [hj]), e2⟩
  · rintro st ⟨rest, e1, hs, e2⟩
    have : rest = [] := by cases rest with
      | nil => rfl
      | cons _ _ => cases e1
    subst this
    simp [stepP, runP, e2, fewD]
theorem fewest_first : IsFirst (numsTo cs.length) (fun is => litIn ts (leave cs is) ls x == b) (fewest ts cs ls x b) := find_first numsTo_rise
theorem darkening_eq (h : Hs ts cs) (l : Ls ts ls) (x0 : 0 ≤ x) (x1 : x < ts.length) : p_darkening (houseD ts cs) (lightsD ls) (.int x) = some (fewD (fewest ts cs ls x false)) := by
  unfold p_darkening q_darkening
  simp only [Option.bind_some, fewest_eq h l x0 x1]
  rfl
theorem lighting_eq (h : Hs ts cs) (l : Ls ts ls) (x0 : 0 ≤ x) (x1 : x < ts.length) : p_lighting (houseD ts cs) (lightsD ls) (.int x) = some (fewD (fewest ts cs ls x true)) := by
  unfold p_lighting q_lighting
  simp only [Option.bind_some, fewest_eq h l x0 x1]
  rfl
end Pg
set_option Elab.async false
set_option linter.all false
set_option maxRecDepth 100000
set_option maxHeartbeats 1000000
namespace Bn
/-- what leads into a lot -/
inductive Leads (cs : List Cord) (ps : List Int) : Int → Prop
  | base {x : Int} (h : x ∈ ps) : Leads cs ps x
  | step {x : Int} {c : Cord} (hc : c ∈ cs) (h : Leads cs ps c.oth) (e : c.one = x) : Leads cs ps x
theorem Leads.mono {cs : List Cord} {ps qs : List Int} (hp : ∀ p ∈ ps, Leads cs qs p) {x : Int} (l : Leads cs ps x) : Leads cs qs x := by
  induction l with
  | base h => exact hp _ h
  | step hc _ e ih => exact .step hc ih e
end Bn
namespace Pg
open PySem PySem.Spec PyProof.Rows L2 Dn
section
variable {ts : List Int} {cs : List Cord} {ps : List Int} {x : Int}
theorem nodup_len {fs : List Int} {n : Nat} (hd : fs.Nodup) (hr : ∀ f ∈ fs, 0 ≤ f ∧ f < (n : Int)) : fs.length ≤ n := by
  have p := sortI_perm (ns := fs)
  have s : (sortI fs).Pairwise (· < ·) := (lt_of_le_nodup _ sortI_pair (p.nodup_iff.mpr hd))
  have := rise_len (qs := sortI fs) (n := 0) (m := n) s (fun q hq => hr q (p.mem_iff.mp hq)) (by omega)
  have := p.length_eq
  omega
end
end Pg
set_option Elab.async false
set_option linter.all false
set_option maxRecDepth 100000
set_option maxHeartbeats 1000000
namespace Pg
open PySem PySem.Spec PyProof.Rows L2 Dn
end Pg
set_option Elab.async false
set_option linter.all false
set_option maxRecDepth 100000
set_option maxHeartbeats 1000000
namespace Bn
/-! ### own houses of own houses -/
def In (n : Nat) (qs : List Int) : Prop := qs.Pairwise (· < ·) ∧ ∀ q ∈ qs, 0 ≤ q ∧ q < (n : Int)
section
variable {ts ps qs : List Int} {cs : List Cord} {ls : List Lgt} {x y q : Int}
/-! the lot of all candles -/
def all (n : Nat) : List Int := (List.range n).map fun i : Nat => (i : Int)
end
end Bn
set_option linter.all false
namespace Bn
/-! ### a part of a house that nothing from without feeds -/
section
variable {ts us ps : List Int} {cs ds : List Cord} {ls js : List Lgt} {T U : Tales} {X : Int → Prop} {f r : Int → Int}
/-! the cords that end in a lot, with their numbers -/
def kept (cs : List Cord) (ps : List Int) : List (Cord × Nat) := cs.zipIdx.filter fun p => decide (p.1.oth ∈ ps)
end
end Bn
set_option linter.all false
namespace Bn
/-! ### so many times as great, so much later -/
section
variable {k d : Int} {ts : List Int} {cs : List Cord} {ls : List Lgt} {T : Tales} {x : Int}
def ledS (k d : Int) (s : Setg) : Setg := (s.1 * k + d, s.2.1 * k, s.2.2)
def ledE (k d : Int) (e : Emb) : Emb := (e.1 * k + d, e.2.1 * k, e.2.2)
def ledC (k : Int) (c : Cord) : Cord := (c.1, c.2.1 * k, c.2.2.1, c.2.2.2.1 * k, c.2.2.2.2 * k)
def ledL (k d : Int) (l : Lgt) : Lgt := (l.1, l.2 * k + d)
theorem mul_le (hk : 1 ≤ k) {a b : Int} : a * k ≤ b * k ↔ a ≤ b := Int.mul_le_mul_right (by omega)
theorem mul_lt (hk : 1 ≤ k) {a b : Int} : a * k < b * k ↔ a < b := Int.mul_lt_mul_right (by omega)
theorem setOf_led {e : Emb} : setOf (ledE k d e) = ledS k d (setOf e) := rfl
theorem flame_led (hk : 1 ≤ k) {t : List Setg} {b : Int} : flame (t.map (ledS k d)) (b * k + d) = flame t b * k := by
  induction t using snoc_ind with
  | h0 => simp [flame]
  | h1 t s ih =>
    rw [List.map_append, List.map_cons, List.map_nil, flame_snoc, flame_snoc, ih]
    have h1 : (ledS k d s).1 ≤ b * k + d ↔ s.1 ≤ b := by
      have := mul_le hk (a := s.1) (b := b)
      show s.1 * k + d ≤ b * k + d ↔ _
      omega
    by_cases hs : s.1 ≤ b
    · rw [if_pos (h1.mpr hs), if_pos hs]
      show max 0 (s.2.1 * k - (b * k + d - (s.1 * k + d))) = _
      have e : s.2.1 * k - (b * k + d - (s.1 * k + d)) = (s.2.1 - (b - s.1)) * k := by
        rw [Int.sub_mul, Int.sub_mul]
        omega
      rw [e]
      have h2 := mul_le hk (a := 0) (b := s.2.1 - (b - s.1))
      rw [Int.zero_mul] at h2
      by_cases h3 : 0 ≤ s.2.1 - (b - s.1)
      · rw [Int.max_eq_right (h2.mpr h3), Int.max_eq_right h3]
      · rw [Int.max_eq_left (by have := fun h => h3 (h2.mp h); omega), Int.max_eq_left (by omega), Int.zero_mul]
    · rw [if_neg (fun h => hs (h1.mp h)), if_neg hs]
theorem catch_led (hk : 1 ≤ k) {a : Int} : ∀ {t : List Setg}, catchOf (t.map (ledS k d)) (a * k) = (catchOf t a).map fun b => b * k + d
  | [] => rfl
  | s :: t => by
    rw [List.map_cons, catch_cons, catch_cons, catch_led hk]
    have e1 : a * k ≤ (ledS k d s).2.1 ↔ a ≤ s.2.1 := mul_le hk
    have e2 : (ledS k d s).1 + (ledS k d s).2.1 - a * k = (s.1 + s.2.1 - a) * k + d := by
      show s.1 * k + d + s.2.1 * k - a * k = _
      rw [Int.sub_mul, Int.add_mul]
      omega
    have e3 : (t.map (ledS k d) = [] ∨ (ledS k d s).1 + (ledS k d s).2.1 - a * k < ((t.map (ledS k d)).headD (ledS k d s)).1) ↔ (t = [] ∨ s.1 + s.2.1 - a < (t.headD s).1) := by
      rw [e2]
      cases t with
      | nil => simp
      | cons r t =>
        simp only [List.map_cons, List.headD_cons, reduceCtorEq, false_or]
        have := mul_lt hk (a := s.1 + s.2.1 - a) (b := r.1)
        show _ < r.1 * k + d ↔ _
        omega
    by_cases h : a ≤ s.2.1 ∧ (t = [] ∨ s.1 + s.2.1 - a < (t.headD s).1)
    · rw [if_pos h, if_pos ⟨e1.mpr h.1, e3.mpr h.2⟩, e2]
      rfl
    · rw [if_neg h, if_neg fun h' => h ⟨e1.mp h'.1, e3.mp h'.2⟩]
theorem eLe_led (hk : 1 ≤ k) {a b : Emb} (h : eLe a b) : eLe (ledE k d a) (ledE k d b) := by
  unfold eLe at *
  show a.1 * k + d < b.1 * k + d ∨ (a.1 * k + d = b.1 * k + d ∧ (a.2.1 * k < b.2.1 * k ∨ (a.2.1 * k = b.2.1 * k ∧ a.2.2 ≤ b.2.2)))
  rcases h with h | ⟨h1, h | ⟨h2, h3⟩⟩
  · have := (mul_lt hk).mpr h
    left
    omega
  · right
    exact ⟨by rw [h1], .inl ((mul_lt hk).mpr h)⟩
  · right
    exact ⟨by rw [h1], .inr ⟨by rw [h2], h3⟩⟩
theorem step_led (hk : 1 ≤ k) {t : List Setg} {e : Emb} : taleStep (t.map (ledS k d)) (ledE k d e) = (taleStep t e).map (ledS k d) := by
  unfold taleStep
  have h1 : (ledE k d e).2.1 < flame (t.map (ledS k d)) (ledE k d e).1 ↔ e.2.1 < flame t e.1 := by
    show e.2.1 * k < flame (t.map (ledS k d)) (e.1 * k + d) ↔ _
    rw [flame_led hk]
    exact mul_lt hk
  have h2 : t.map (ledS k d) = [] ↔ t = [] := by simp
  by_cases h : t = [] ∨ e.2.1 < flame t e.1
  · rw [if_pos h, if_pos (by rw [h2, h1]; exact h), List.map_append, List.map_cons, List.map_nil, setOf_led]
  · rw [if_neg h, if_neg (by rw [h2, h1]; exact h)]
theorem fold_led (hk : 1 ≤ k) : ∀ {es : List Emb} {t : List Setg}, (es.map (ledE k d)).foldl taleStep (t.map (ledS k d)) = (es.foldl taleStep t).map (ledS k d)
  | [], t => rfl
  | e :: es, t => by
    rw [List.map_cons, List.foldl_cons, List.foldl_cons, step_led hk, fold_led hk]
theorem taleOf_led (hk : 1 ≤ k) {es : List Emb} : taleOf (es.map (ledE k d)) = (taleOf es).map (ledS k d) := fold_led hk (t := [])
theorem topOf_led {y : Int} : topOf (ts.map (· * k)) y = topOf ts y * k := by
  unfold topOf
  rw [List.getD_eq_getElem?_getD, List.getD_eq_getElem?_getD, List.getElem?_map]
  cases ts[y.toNat]? <;> simp
theorem taleAt_led {y : Int} : taleAt (T.map (List.map (ledS k d))) y = (taleAt T y).map (ledS k d) := by
  unfold taleAt
  rw [List.getD_eq_getElem?_getD, List.getD_eq_getElem?_getD, List.getElem?_map]
  cases T[y.toNat]? <;> simp
theorem house_led (hk : 1 ≤ k) (h : HouseOk ts cs) : HouseOk (ts.map (· * k)) (cs.map (ledC k)) := by
  refine ⟨fun t ht => ?_, fun c hc => ?_⟩
  · obtain ⟨u, hu, rfl⟩ := List.mem_map.mp ht
    have := (mul_le hk).mpr (h.top u hu)
    rw [Int.one_mul] at this
    show 1 ≤ u * k
    omega
  · obtain ⟨c, hc', rfl⟩ := List.mem_map.mp hc
    have q := h.cord c hc'
    have up : ∀ {a : Int}, 1 ≤ a → 1 ≤ a * k := fun {a} ha => by
      have := (mul_le hk).mpr ha
      rw [Int.one_mul] at this
      omega
    have e1 := (mul_le hk).mpr q.at1
    rw [Int.sub_mul, Int.one_mul] at e1
    refine ⟨q.one0, by rw [List.length_map]; exact q.one1, up q.at0, ?_, q.oth0, by rw [List.length_map]; exact q.oth1, up q.to0, ?_, up q.lng⟩
    · rw [topOf_led]
      show c.at_ * k ≤ topOf ts c.one * k - 1
      omega
    · rw [topOf_led]
      exact (mul_le hk).mpr q.to1
theorem embs_led (hk : 1 ≤ k) : embs (ts.map (· * k)) (cs.map (ledC k)) (ls.map (ledL k d)) (T.map (List.map (ledS k d))) x = (embs ts cs ls T x).map (ledE k d) := by
  unfold embs
  rw [List.map_append, List.filterMap_map, List.zipIdx_map, List.filterMap_map, List.map_filterMap, List.map_filterMap]
  congr 1
  · congr 1
    funext l
    show (if l.1 = x then some (l.2 * k + d, topOf (ts.map (· * k)) x, -1) else none) = _
    by_cases h : l.1 = x
    · rw [if_pos h, if_pos h, topOf_led]; rfl
    · rw [if_neg h, if_neg h]; rfl
  · congr 1
    funext p
    show (if p.1.oth = x then (catchOf (taleAt (T.map (List.map (ledS k d))) p.1.one) (p.1.at_ * k)).map fun b => (b + p.1.lng * k, p.1.to * k, (p.2 : Int)) else none) = _
    by_cases h : p.1.oth = x
    · rw [if_pos h, if_pos h, taleAt_led, catch_led hk]
      cases catchOf (taleAt T p.1.one) p.1.at_ with
      | none => rfl
      | some b =>
        show some (b * k + d + p.1.lng * k, p.1.to * k, (p.2 : Int)) = some ((b + p.1.lng) * k + d, p.1.to * k, (p.2 : Int))
        rw [Int.add_mul]
        congr 2
        omega
    · rw [if_neg h, if_neg h]; rfl
end
end Bn
set_option Elab.async false
set_option linter.all false
set_option maxRecDepth 100000
set_option maxHeartbeats 1000000
namespace Bn
section
variable {k d : Int} {ts : List Int} {cs : List Cord} {ls : List Lgt} {T : Tales} {x : Int}
theorem isTales_led (hk : 1 ≤ k) (h : HouseOk ts cs) (hl : LightsOk ts ls) (m : IsTales ts cs ls T) : IsTales (ts.map (· * k)) (cs.map (ledC k)) (ls.map (ledL k d)) (T.map (List.map (ledS k d))) := by
  refine isTales_by (house_led hk h) (fun x => (Dn.sortE (embs ts cs ls T x)).map (ledE k d)) (by simp [m.len]) fun x x0 x1 => ?_
  rw [List.length_map] at x1
  refine ⟨?_, fun e he => ?_, ?_, fun e => ?_⟩
  · rw [taleAt_led, taleOf_led hk, tale_back h hl m x0 x1]
  · obtain ⟨e, he', rfl⟩ := List.mem_map.mp he
    have hE := (mem_embs h fun y y0 y1 => (m.made y y0 y1).wf).mp (Dn.sortE_perm.mem_iff.mp he')
    have h1 : 1 ≤ e.2.1 := by
      rcases hE with ⟨l, hlm, rfl, rfl⟩ | ⟨i, c, hc, _, _, h2, _⟩
      · have := h.top (topOf ts l.1) (by
          unfold topOf
          rw [List.getD_eq_getElem?_getD, List.getElem?_eq_getElem (by omega)]
          exact List.getElem_mem _)
        exact this
      · rw [h2]
        exact (h.cord c (List.mem_of_getElem? hc)).to0
    have := (mul_le hk).mpr h1
    rw [Int.one_mul] at this
    show 1 ≤ e.2.1 * k
    omega
  · rw [List.pairwise_map]
    exact Dn.sortE_pair.imp fun h => eLe_led hk h
  · rw [embs_led hk, List.mem_map, List.mem_map]
    exact exists_congr fun a => and_congr_left fun _ => Dn.sortE_perm.mem_iff.symm
end
end Bn
namespace Pg
open PySem PySem.Spec PyProof.Rows L2 Dn
end Pg
set_option Elab.async false
set_option linter.all false
set_option maxRecDepth 100000
set_option maxHeartbeats 1000000
namespace Pg
open PySem PySem.Spec PyProof.Rows L2 Dn
end Pg
set_option Elab.async false
set_option linter.all false
set_option maxRecDepth 100000
set_option maxHeartbeats 1000000
namespace Pg
open PySem PySem.Spec PyProof.Rows L2 Dn
end Pg
set_option Elab.async false
set_option linter.all false
set_option maxRecDepth 100000
set_option maxHeartbeats 1000000
namespace Pg
open PySem PySem.Spec PyProof.Rows L2 Dn
variable {ts : List Int} {cs : List Cord} {ls : List Lgt} {t : List Setg} {x : Int} {ps a b : List Int}
theorem litIn_iff : litIn ts cs ls x = true ↔ Bn.taleAt (tales ts cs ls) x ≠ [] := by
  unfold litIn
  cases Bn.taleAt (tales ts cs ls) x <;> simp
/-- a candle with a light is lit, whatever is cut -/
theorem lit_light (h : Hs ts cs) (l : Ls ts ls) (x0 : 0 ≤ x) (x1 : x < ts.length) {b : Int} (hx : (x, b) ∈ ls) : litIn ts cs ls x = true := by
  obtain ⟨s, t, e, _⟩ := Bn.light_dark (tales_is h l) x0 x1 hx
  rw [litIn_iff, e]
  simp
end Pg
set_option Elab.async false
set_option linter.all false
set_option maxRecDepth 100000
set_option maxHeartbeats 1000000
namespace Bn
/-! ### the candles in another order -/
def Order (n : Nat) (os : List Int) : Prop := os.Perm (all n)
section
variable {ts os as : List Int} {cs : List Cord} {ls js : List Lgt} {T : Tales} {x y q : Int} {n : Nat}
theorem all_len : (all n).length = n := by unfold all; simp
theorem Order.len (h : Order n os) : os.length = n := h.length_eq.trans all_len
theorem all_map {α : Type} {f : Int → α} : (all n).map f = (List.range n).map fun i : Nat => f (i : Int) := by
  unfold all
  rw [List.map_map]
  rfl
end
end Bn
namespace Pg
open PySem PySem.Spec PyProof.Rows L2 Dn
end Pg
set_option Elab.async false
set_option linter.all false
set_option maxRecDepth 100000
set_option maxHeartbeats 1000000
namespace Bn
/-! ### the way from the light to a candle, cord by cord -/
section
variable {ts : List Int} {cs ds : List Cord} {ls js : List Lgt} {T P : Tales} {x x0 y b h : Int} {r : Option Int} {t : List Setg} {p : List Int}
inductive Walk (cs : List Cord) (T : Tales) : Int → List Int → Int → Prop
  | nil {x : Int} : Walk cs T x [] x
  | cons {i x b β h0 : Int} {c : Cord} {r : Option Int} {t u : List Setg} {p : List Int} (i0 : 0 ≤ i) (hc : cs[i.toNat]? = some c) (e0 : taleAt T c.one = (β, h0, r) :: u) (e1 : taleAt T c.oth = (b, c.to, some i) :: t) (hk : catchOf (taleAt T c.one) c.at_ = some (b - c.lng)) (hb : β ≤ b - c.lng) (ha : c.at_ ≤ h0) (w : Walk cs T c.oth p x) : Walk cs T c.one (i :: p) x
theorem Walk.snoc {i b β h0 : Int} {c : Cord} {u : List Setg} (w : Walk cs T y p x) (i0 : 0 ≤ i) (hc : cs[i.toNat]? = some c) (hx : c.one = x) (e0 : taleAt T c.one = (β, h0, r) :: u) (e1 : taleAt T c.oth = (b, c.to, some i) :: t) (hk : catchOf (taleAt T c.one) c.at_ = some (b - c.lng)) (hb : β ≤ b - c.lng) (ha : c.at_ ≤ h0) : Walk cs T y (p ++ [i]) c.oth := by
  induction w with
  | nil =>
    subst hx
    exact .cons i0 hc e0 e1 hk hb ha .nil
  | cons i0' hc' e0' e1' hk' hb' ha' w ih => exact .cons i0' hc' e0' e1' hk' hb' ha' (ih hx)
end
end Bn
set_option Elab.async false
set_option linter.all false
set_option maxRecDepth 100000
set_option maxHeartbeats 4000000
set_option Elab.async false
set_option linter.all false
set_option maxRecDepth 100000
set_option Elab.async false
set_option linter.all false
set_option maxRecDepth 100000
namespace Dn
open PySem PySem.Spec PyProof.Rows L2
end Dn
set_option Elab.async false
set_option linter.all false
set_option maxRecDepth 100000
namespace Dn
open PySem PySem.Spec PyProof.Rows L2
end Dn
namespace Dn
open PySem PySem.Spec PyProof.Rows L2
end Dn
set_option Elab.async false
set_option linter.all false
set_option maxRecDepth 100000
set_option maxHeartbeats 4000000
set_option Elab.async false
set_option linter.all false
set_option maxRecDepth 100000
set_option maxHeartbeats 4000000
namespace Pi
open PySem PySem.Spec PyProof.Rows L2 Dn
noncomputable def b__law_take : DS := (dSeq (dIfS (dTidyT (dTest (dOp gGt (dOp gIx (dVar 0) (dC (.int 0))) (dC (.int 0))))) (dSeq (dAsg (dTidy (dOp gMod (dOp gIx (dVar 0) (dC (.int 0))) (dVar 1))) (dName 3))
    (dSeq (dAsg (dTidy (dOp gDiv (dOp gIx (dVar 0) (dC (.int 0))) (dVar 1))) (dgSub (dVar 0) (dC (.int 0))))
    (dRet (dVar 3)))) dNext)
    (dSeq (dAsg (dTidy (dOp gAdd (dOp gIx (dVar 0) (dC (.int 2))) (dC (.int 1)))) (dgSub (dVar 0) (dC (.int 2))))
    (dSeq (dAsg (dTidy (dOp gMod (dOp gAdd (dOp gAdd (dOp gMulT (dOp gIx (dVar 0) (dC (.int 1))) (dC (.int 48271))) (dC (.int 29))) (dOp gIx (dVar 0) (dC (.int 2)))) (dC (.int 2147483647)))) (dgSub (dVar 0) (dC (.int 1))))
    (dSeq (dAsg (dTidy (dOp gMod (dOp gAdd (dOp gAdd (dOp gMulT (dOp gIx (dVar 0) (dC (.int 1))) (dOp gIx (dVar 0) (dC (.int 1)))) (dOp gMulT (dC (.int 39373)) (dOp gIx (dVar 0) (dC (.int 1))))) (dC (.int 7))) (dC (.int 2147483629)))) (dName 2))
    (dSeq (dAsg (dTidy (dOp gMod (dOp gAdd (dOp gMulT (dVar 2) (dVar 2)) (dOp gMulT (dC (.int 16807)) (dVar 2))) (dC (.int 2147483587)))) (dName 2))
    (dRet (dOp gMod (dOp gDiv (dVar 2) (dC (.int 8))) (dVar 1))))))))
noncomputable def m__law_take : DF := runF 2 4 b__law_take
end Pi
set_option Elab.async false
set_option linter.all false
set_option maxRecDepth 100000
namespace Pi
open PySem PySem.Spec PyProof.Rows L2 Dn
/-! ### the third family's pen: a state of three numbers -/
theorem three_of {q : List Int} (h : q.length = 3) : ∃ a b c, q = [a, b, c] := by
  match q, h with
  | [a, b, c], _ => exact ⟨a, b, c, rfl⟩
theorem sw_take : SpW m__law_take 3 1 (fun xs κ => match xs with | [m] => Ph.w_take m κ | _ => False) := fun C j q xs κ hq hc hl hw => by
  match xs, hl, hw with
  | [m], _, hw =>
    obtain ⟨k, rfl, h0, h1, hk⟩ := hw
    obtain ⟨a, b, c, rfl⟩ := three_of hq
    have hn := cellAt_lt hc
    have h2 : k < 18446744073709551616 := by simpa using h1
    have hk' : ∀ x : Int, κ (.int (x % k)) := fun x => hk _ (Int.emod_nonneg _ (by omega)) (Int.emod_lt_of_pos _ h0)
    have go : Wo (m__law_take [.c j, .d (.int k)] C) fun y => ∃ x q', y = (.d x, C.set j (some ((q' : List Int).map .int))) ∧ q'.length = 3 ∧ κ x := by
      unfold m__law_take
      rw [wo_run2]
      unfold b__law_take
      have i0 : L2.ixN 3 0 = some 0 := rfl
      have i1 : L2.ixN 3 1 = some 1 := rfl
      have i2 : L2.ixN 3 2 = some 2 := rfl
      have b1 : ∀ x : Int, (x % 2147483647).natAbs < 2 ^ 64 := fun x => by omega
      have b2 : ∀ x : Int, (x % 2147483629).natAbs < 2 ^ 64 := fun x => by omega
      simp [dVar, hc, dgSub, h0, h2, cellAt_set hn, hk', i0, i1, i2]
      split
      · exact ⟨_, [a / k, b, c], ⟨rfl, rfl⟩, rfl, hk' _⟩
      · simp [b1, b2, cellAt_set hn, i0, i1, i2]
        exact ⟨_, [a, _, _], ⟨rfl, rfl⟩, rfl, hk' _⟩
    obtain ⟨y, e, x, q', rfl, h3, h4⟩ := go
    exact ⟨x, q', e, h3, h4⟩
end Pi
set_option Elab.async false
set_option linter.all false
set_option maxRecDepth 100000
set_option maxHeartbeats 4000000
namespace Pi
open PySem PySem.Spec PyProof.Rows L2 Dn
-- v__law_cord_1, v__law_cord_2, v__law_cord_3
-- v__law_house_1, v__law_house_2
end Pi
set_option Elab.async false
set_option linter.all false
set_option maxRecDepth 100000
set_option maxHeartbeats 4000000
namespace Pi
open PySem PySem.Spec PyProof.Rows L2 Dn
-- v__law_lights_1, v__law_lights_2, v__law_lights_3
end Pi
set_option Elab.async false
set_option linter.all false
set_option maxRecDepth 100000
namespace Pi
open PySem PySem.Spec PyProof.Rows L2 Dn Pg Ph
end Pi
set_option Elab.async false
set_option linter.all false
set_option maxRecDepth 100000
namespace Pi
open PySem PySem.Spec PyProof.Rows L2 Dn Pg Ph
end Pi
set_option Elab.async false
set_option linter.all false
set_option maxRecDepth 100000
set_option Elab.async false
set_option linter.all false
set_option maxRecDepth 100000
set_option maxHeartbeats 1000000
namespace Pg
open PySem PySem.Spec PyProof.Rows L2 Dn
end Pg
set_option Elab.async false
set_option linter.all false
set_option maxRecDepth 100000
set_option maxHeartbeats 1000000
namespace Pg
open PySem PySem.Spec PyProof.Rows L2 Dn
end Pg
set_option Elab.async false
set_option linter.all false
set_option maxRecDepth 100000
set_option maxHeartbeats 4000000
set_option linter.all false
namespace Bn
section
variable {ts : List Int} {cs : List Cord} {ls : List Lgt} {T : Tales} {b n x : Int} {t : List Setg}
/-! ### from beat to beat: what has been settled up to a beat, and what comes next -/
theorem mem_upto {s : Setg} : s ∈ upto b t ↔ s ∈ t ∧ s.1 ≤ b := by simp [upto]
theorem Wf.upto (w : Wf t) {b : Int} : Wf (upto b t) := by
  induction t using snoc_ind with
  | h0 => exact w
  | h1 t s ih =>
    unfold Bn.upto at *
    rw [List.filter_append]
    by_cases hs : s.1 ≤ b
    · rw [List.filter_cons_of_pos (by simpa using hs), List.filter_nil, List.filter_eq_self.mpr fun r hr => by have := w.last_max r hr; simp; omega]
      exact w
    · rw [List.filter_cons_of_neg (by simpa using hs), List.filter_nil, List.append_nil]
      exact ih w.init
theorem Made.upto {E : Emb → Prop} (m : Made E t) : Made (fun e => E e ∧ e.1 ≤ b) (upto b t) := by
  refine ⟨m.wf.upto, fun s hs => ?_, fun e he => ?_⟩
  · obtain ⟨h1, h2⟩ := mem_upto.mp hs
    obtain ⟨e, he, rfl, hm⟩ := m.made s h1
    exact ⟨e, ⟨he, h2⟩, rfl, fun e' he' => hm e' he'.1⟩
  · obtain ⟨⟨s, hs, hb⟩, hf⟩ := m.met e he.1
    exact ⟨⟨s, mem_upto.mpr ⟨hs, by have := he.2; omega⟩, hb⟩, by rw [flame_upto he.2]; exact hf⟩
/-- the beat in which a cord will catch, as the flame is now -/
def soonB (t : List Setg) (a : Int) : Option Int := match t.getLast? with
  | none => none
  | some s => if a ≤ s.2.1 then some (s.1 + s.2.1 - a) else none
theorem soonB_snoc {s : Setg} {a : Int} : soonB (t ++ [s]) a = if a ≤ s.2.1 then some (s.1 + s.2.1 - a) else none := by simp [soonB]
theorem soonB_iff {a : Int} (ha : 1 ≤ a) (hall : ∀ s ∈ t, s.1 ≤ n) : soonB t a = some n ↔ flame t n = a := by
  rcases snoc_or t with rfl | ⟨u, s, rfl⟩
  · have : flame [] n = 0 := rfl
    simp [soonB, this]
    omega
  · have hs := hall s (by simp)
    rw [soonB_snoc, flame_snoc, if_pos hs]
    split
    · simp only [Option.some.injEq]
      omega
    · simp
      omega
/-- the embers that are under way behind a beat -/
def Fly (ts : List Int) (cs : List Cord) (ls : List Lgt) (T : Tales) (b : Int) (p : PE) : Prop :=
  b < p.1 ∧ ((∃ l ∈ ls, p = (l.2, l.1, topOf ts l.1, -1)) ∨ ∃ (i : Nat) (c : Cord) (w : Int), cs[i]? = some c ∧ w ≤ b ∧ flame (taleAt T c.one) w = c.at_ ∧ p = (w + c.lng, c.oth, c.to, (i : Int)))
abbrev kAt (T : Tales) (b : Int) (c : Cord) : Option Int := cap b (catchOf (taleAt T c.one) c.at_)
theorem kAt_some (h : HouseOk ts cs) (m : IsTales ts cs ls T) {c : Cord} (hc : c ∈ cs) {w : Int} : kAt T b c = some w ↔ flame (taleAt T c.one) w = c.at_ ∧ w ≤ b := by
  have k := h.cord c hc
  rw [cap_iff, (m.made c.one k.one0 k.one1).wf.catch_iff k.at0]
theorem kAt_none (h : HouseOk ts cs) (m : IsTales ts cs ls T) {c : Cord} (hc : c ∈ cs) : kAt T b c = none ↔ ∀ w, w ≤ b → flame (taleAt T c.one) w ≠ c.at_ := by
  constructor
  · intro hn w hw hf
    rw [(kAt_some h m hc).mpr ⟨hf, hw⟩] at hn
    cases hn
  · intro hn
    cases hk : kAt T b c with
    | none => rfl
    | some w =>
      obtain ⟨h1, h2⟩ := (kAt_some h m hc).mp hk
      exact (hn w h2 h1).elim
structure Next (ts : List Int) (cs : List Cord) (ls : List Lgt) (T : Tales) (b n : Int) : Prop where
  fly : ∀ p, Fly ts cs ls T b p → n ≤ p.1
  soon : ∀ c ∈ cs, kAt T b c = none → ∀ w, soonB (upto b (taleAt T c.one)) c.at_ = some w → n ≤ w
theorem Next.quiet (q : Next ts cs ls T b n) (h : HouseOk ts cs) (m : IsTales ts cs ls T) : ∀ k : Nat, b + k < n → (∀ x : Int, 0 ≤ x → x < ts.length → upto (b + k) (taleAt T x) = upto b (taleAt T x)) ∧ ∀ c ∈ cs, kAt T (b + k) c = kAt T b c
  | 0, _ => by simp
  | k + 1, hk => by
    have e0 : b + ((k + 1 : Nat) : Int) = b + k + 1 := by omega
    rw [e0] at hk ⊢
    obtain ⟨i1, i2⟩ := q.quiet h m k (by omega)
    have tl : ∀ x : Int, 0 ≤ x → x < ts.length → upto (b + k + 1) (taleAt T x) = upto b (taleAt T x) := fun x x0 x1 => by
      rw [← i1 x x0 x1]
      unfold upto
      refine List.filter_congr fun s hs => ?_
      rw [decide_eq_decide]
      constructor
      · intro hsb
        by_cases hlt : s.1 ≤ b + k
        · exact hlt
        · obtain ⟨e, he, hse, _⟩ := (m.made x x0 x1).made s hs
          have he1 : e.1 = b + k + 1 := by
            have : s.1 = e.1 := by rw [hse]; rfl
            omega
          rcases he with ⟨l, hl, h1, rfl⟩ | ⟨i, c, hi, h1, h2, h3, h4⟩
          · have h1' : l.2 = b + k + 1 := he1
            have := q.fly (l.2, l.1, topOf ts l.1, -1) ⟨by show b < l.2; omega, .inl ⟨l, hl, rfl⟩⟩
            have : n ≤ l.2 := this
            omega
          · have hc := List.mem_of_getElem? hi
            have kc := h.cord c hc
            have kl := kc.lng
            have hw : kAt T (b + k) c = some (e.1 - c.lng) := (kAt_some h m hc).mpr ⟨h2, by omega⟩
            rw [i2 c hc] at hw
            have hwb := ((kAt_some h m hc).mp hw).2
            have := q.fly (e.1 - c.lng + c.lng, c.oth, c.to, (i : Int)) ⟨by show b < e.1 - c.lng + c.lng; omega, .inr ⟨i, c, _, hi, hwb, h2, rfl⟩⟩
            have : n ≤ e.1 - c.lng + c.lng := this
            omega
      · intro; omega
    refine ⟨tl, fun c hc => ?_⟩
    have kc := h.cord c hc
    refine Option.ext fun w => ?_
    rw [kAt_some h m hc, kAt_some h m hc]
    refine and_congr_right fun hf => ⟨fun hw => ?_, fun hw => by omega⟩
    by_cases hwb : w ≤ b + k
    · have := (kAt_some h m hc).mpr ⟨hf, hwb⟩
      rw [i2 c hc] at this
      exact ((kAt_some h m hc).mp this).2
    · have hw1 : w = b + k + 1 := by omega
      by_cases hwb2 : w ≤ b
      · exact hwb2
      · have hn : kAt T b c = none := (kAt_none h m hc).mpr fun v hv hf' => by
          have := (m.made c.one kc.one0 kc.one1).wf.once kc.at0 hf hf'
          omega
        have hs : soonB (upto b (taleAt T c.one)) c.at_ = some w := (soonB_iff kc.at0 fun s hs => by have := (mem_upto.mp hs).2; omega).mpr (by
          rw [← tl c.one kc.one0 kc.one1, ← hw1, flame_upto (Int.le_refl _)]
          exact hf)
        have := q.soon c hc hn w hs
        omega
theorem Next.quiet' (q : Next ts cs ls T b n) (h : HouseOk ts cs) (m : IsTales ts cs ls T) {d : Int} (h1 : b ≤ d) (h2 : d < n) : (∀ x : Int, 0 ≤ x → x < ts.length → upto d (taleAt T x) = upto b (taleAt T x)) ∧ ∀ c ∈ cs, kAt T d c = kAt T b c := by
  have := q.quiet h m (d - b).toNat (by omega)
  rw [show b + ((d - b).toNat : Int) = d by omega] at this
  exact this
theorem Next.ember (q : Next ts cs ls T b n) (h : HouseOk ts cs) (m : IsTales ts cs ls T) (hb : b < n) {e : Emb} (he : e.1 = n) : Ember ts cs ls T x e ↔ Fly ts cs ls T b (n, x, e.2.1, e.2.2) := by
  obtain ⟨e1, e2, e3⟩ := e
  have he : e1 = n := he
  subst he
  constructor
  · rintro (⟨l, hl, h1, h2⟩ | ⟨i, c, hi, h1, h2, h3, h4⟩)
    · subst h1
      cases h2
      exact ⟨hb, .inl ⟨l, hl, rfl⟩⟩
    · have hc := List.mem_of_getElem? hi
      have kl := (h.cord c hc).lng
      have hw : kAt T (e1 - 1) c = some (e1 - c.lng) := (kAt_some h m hc).mpr ⟨h2, by omega⟩
      rw [(q.quiet' h m (by omega) (by omega)).2 c hc] at hw
      refine ⟨hb, .inr ⟨i, c, e1 - c.lng, hi, ((kAt_some h m hc).mp hw).2, h2, ?_⟩⟩
      rw [show e1 - c.lng + c.lng = e1 by omega]
      have h3 : e2 = c.to := h3
      have h4 : e3 = i := h4
      rw [← h1, h3, h4]
  · rintro ⟨_, ⟨l, hl, h1⟩ | ⟨i, c, w, hi, h1, h2, h3⟩⟩
    · obtain ⟨a1, a2⟩ := Prod.mk.inj h1
      obtain ⟨a2, a3⟩ := Prod.mk.inj a2
      exact .inl ⟨l, hl, a2.symm, by rw [a1, a2, a3]⟩
    · obtain ⟨a1, a2⟩ := Prod.mk.inj h3
      obtain ⟨a2, a3⟩ := Prod.mk.inj a2
      obtain ⟨a3, a4⟩ := Prod.mk.inj a3
      exact .inr ⟨i, c, hi, a2.symm, by show flame _ (e1 - c.lng) = _; rw [a1, show w + c.lng - c.lng = w by omega]; exact h2, a3, a4⟩
end
end Bn
set_option Elab.async false
set_option linter.all false
set_option maxRecDepth 100000
set_option maxHeartbeats 1000000
namespace Dn
open PySem PySem.Spec PyProof.Rows L2
theorem eqv_nilL {xs : List PyData} : fits (.list xs) (.list []) = true ∧ PyData.eqv (.list xs) (.list []) = xs.isEmpty := by
  cases xs with
  | nil => exact ⟨by decide, by simp [PyData.eqv, PyData.eqvAll]⟩
  | cons x xs => exact ⟨by simp [fits, unlike], by simp [PyData.eqv, PyData.eqvAll]⟩
@[simp] theorem pNe_nilL {xs : List PyData} : pNe (.list xs) (.list []) = some (.bool !xs.isEmpty) := by simp [pNe, eqv_nilL]
@[simp] theorem pEq_nilL {xs : List PyData} : pEq (.list xs) (.list []) = some (.bool xs.isEmpty) := by simp [pEq, eqv_nilL]
end Dn
set_option Elab.async false
set_option linter.all false
set_option maxRecDepth 100000
set_option maxHeartbeats 1000000
namespace Dn
open PySem PySem.Spec PyProof.Rows L2
end Dn
set_option Elab.async false
set_option linter.all false
set_option maxRecDepth 100000
namespace Dn
open PySem PySem.Spec PyProof.Rows L2
open Evl (Ex Ex.refl Ex.trans Ex.new fresh_back ex_l ex_t ex_rd)
/-! ### the least of a list of alike things -/
end Dn
set_option Elab.async false
set_option linter.all false
set_option maxRecDepth 100000
namespace Dn
open PySem PySem.Spec PyProof.Rows L2
/-! ### the least of a list of alike things -/
end Dn
set_option Elab.async false
set_option linter.all false
set_option maxRecDepth 100000
set_option maxHeartbeats 1000000
namespace Pg
open PySem PySem.Spec PyProof.Rows L2 Dn
/-! ### what the laws of cuts ask -/
section
variable {ts : List Int} {cs : List Cord} {ls : List Lgt} {x : Int} {a : List Int}
theorem without_sub (h : Hs ts cs) (hs : a.Sublist (numsTo cs.length)) : p_without (houseD ts cs) (intsD a) = some (houseD ts (leave cs a)) := by
  obtain ⟨r1, r2, r3⟩ := pick_rise hs
  have := h.c10
  exact without_eq h r1 r2 (by omega)
/-! ### the one cut that lights -/
def pairsTo (m n : Nat) : List Lgt := (numsTo m).flatMap fun i => (numsTo n).map fun x => (i, x)
noncomputable def byCut (ts : List Int) (cs : List Cord) (ls : List Lgt) : Option Lgt := (pairsTo cs.length ts.length).find? fun p => !litIn ts cs ls p.2 && litIn ts (leave cs [p.1]) ls p.2
def pairO : Option Lgt → PyData
  | none => .none
  | some p => lgtD p
theorem find_flat {α β : Type} {f : α → List β} {p : β → Bool} : ∀ {l : List α}, (l.flatMap f).find? p = l.findSome? fun a => (f a).find? p
  | [] => rfl
  | a :: l => by
    rw [List.flatMap_cons, List.find?_append, List.findSome?_cons, find_flat (l := l)]
    cases (f a).find? p <;> rfl
theorem find_map {α β : Type} {f : α → β} {p : β → Bool} : ∀ {l : List α}, (l.map f).find? p = (l.find? fun a => p (f a)).map f
  | [] => rfl
  | a :: l => by
    rw [List.map_cons, List.find?_cons, List.find?_cons, find_map (l := l)]
    cases p (f a) <;> rfl
theorem tales_pairs {T : List (List Setg)} : pairs (T.map taleD) = (numsTo T.length).map fun x => .tuple [.int x, taleD (Bn.taleAt T x)] := by
  unfold pairs numsTo
  rw [List.map_map]
  refine List.ext_getElem? fun i => ?_
  rw [List.getElem?_map, List.getElem?_map, List.getElem?_zipIdx, List.getElem?_map]
  by_cases hi : i < T.length
  · rw [List.getElem?_range hi, List.getElem?_eq_getElem hi]
    simp [Bn.taleAt, List.getD_eq_getElem?_getD, List.getElem?_eq_getElem hi]
  · rw [List.getElem?_eq_none (by omega), List.getElem?_eq_none (by simp; omega)]
    rfl
theorem lit_by_cut_eq (h : Hs ts cs) (l : Ls ts ls) : p_lit_by_cut (houseD ts cs) (lightsD ls) = some (pairO (byCut ts cs ls)) := by
  unfold p_lit_by_cut q_lit_by_cut
  have c10 := h.c10
  have hT := tales_len h l
  have r1 : pRange1 (.int (cs.length : Int)) = some ((numsTo cs.length).map .int) := by
    rw [range1_nat (by omega), rng_numsTo]
  refine eq_of_wo ?_
  simp only [Option.bind_some, need_lights_eq h l, burnt_tales_eq h l, pIx_houseD1, pLen_t, List.length_map]
  rw [r1, Option.bind_some, wo_pRun, wo_stepBind]
  unfold byCut pairsTo
  rw [find_flat]
  refine wo_for_ret (fun items _ => ∃ rest : List Int, items = rest.map PyData.int ∧ (∀ i ∈ rest, 0 ≤ i ∧ i < cs.length) ∧ ((numsTo cs.length).findSome? fun a => ((numsTo ts.length).map fun x => (a, x)).find? fun p => !litIn ts cs ls p.2 && litIn ts (leave cs [p.1]) ls p.2) = rest.findSome? fun a => ((numsTo ts.length).map fun x => (a, x)).find? fun p => !litIn ts cs ls p.2 && litIn ts (leave cs [p.1]) ls p.2) ?_ ?_ ⟨_, rfl, fun i hi => numsTo_mem.mp hi, rfl⟩
  · rintro y xs st ⟨rest, e1, hr, e2⟩
    cases rest with
    | nil => cases e1
    | cons i rest =>
      rw [List.map_cons] at e1
      obtain ⟨rfl, rfl⟩ := List.cons.inj e1
      obtain ⟨i0, i1⟩ := hr i (by simp)
      have cut : p_cut_off (houseD ts cs) (.tuple [.int i]) = some (houseD ts (leave cs [i])) := cut_off_eq (ps := [i]) (by omega) (by simp)
      have hT' := tales_len (hs_leave (ps := [i]) h) l
      simp only [pU1_eq, Option.bind_some, cut, burnt_tales_eq (hs_leave h) l, pEnum_t]
      rw [tales_pairs, hT, wo_stepBind]
      rw [List.findSome?_cons, find_map] at e2
      refine wo_for_ret (fun items _ => ∃ more : List Int, items = more.map (fun x => .tuple [.int x, taleD (Bn.taleAt (tales ts cs ls) x)]) ∧ (∀ x ∈ more, 0 ≤ x ∧ x < ts.length) ∧ ((numsTo ts.length).find? fun a => !litIn ts cs ls a && litIn ts (leave cs [i]) ls a) = more.find? fun a => !litIn ts cs ls a && litIn ts (leave cs [i]) ls a) ?_ ?_ ⟨_, rfl, fun x hx => numsTo_mem.mp hx, rfl⟩
      · rintro y ys st ⟨more, e3, hm, e4⟩
        cases more with
        | nil => cases e3
        | cons x more =>
          rw [List.map_cons] at e3
          obtain ⟨rfl, rfl⟩ := List.cons.inj e3
          obtain ⟨x0, x1⟩ := hm x (by simp)
          have u2 : pU2 (.tuple [.int x, taleD (Bn.taleAt (tales ts cs ls) x)]) = some (.int x, taleD (Bn.taleAt (tales ts cs ls) x)) := rfl
          have q1 : pEq (taleD (Bn.taleAt (tales ts cs ls) x)) (.tuple []) = some (.bool !litIn ts cs ls x) := by
            rw [(empty_t (t := Bn.taleAt (tales ts cs ls) x)).1]
            unfold litIn
            simp
          have q2 : pNe (taleD (Bn.taleAt (tales ts (leave cs [i]) ls) x)) (.tuple []) = some (.bool (litIn ts (leave cs [i]) ls x)) := (empty_t (t := Bn.taleAt (tales ts (leave cs [i]) ls) x)).2
          rw [List.find?_cons] at e4
          simp only [u2, Option.bind_some, q1, pIx_t, at_tales (hs_leave h) l x0 x1, q2, asB_bool, pAnd]
          cases hb : (!litIn ts cs ls x && litIn ts (leave cs [i]) ls x) with
          | true =>
            rw [hb] at e4
            obtain ⟨b1, b2⟩ := Bool.and_eq_true_iff.mp hb
            rw [b1, b2, pIf_true, pIf_true, wo_some]
            refine .inr ⟨_, rfl, ?_⟩
            refine Or.inr ⟨_, rfl, ?_⟩
            rw [e4] at e2
            rw [e2]
            rfl
          | false =>
            rw [hb] at e4
            have hn : pIf (some (!litIn ts cs ls x)) (some (litIn ts (leave cs [i]) ls x)) (some false) = some false := by
              cases h1 : litIn ts cs ls x <;> cases h2 : litIn ts (leave cs [i]) ls x <;> simp [h1, h2, pIf] at hb ⊢
            rw [hn, pIf_false, wo_some]
            exact .inl ⟨_, rfl, more, rfl, fun z hz => hm z (List.mem_cons_of_mem _ hz), e4⟩
      · rintro st ⟨more, e3, hm, e4⟩
        have : more = [] := by cases more with
          | nil => rfl
          | cons _ _ => cases e3
        subst this
        rw [e4] at e2
        rw [stepP_inl, wo_some]
        exact .inl ⟨_, rfl, rest, rfl, fun z hz => hr z (List.mem_cons_of_mem _ hz), e2⟩
  · rintro st ⟨rest, e1, hr, e2⟩
    have : rest = [] := by cases rest with
      | nil => rfl
      | cons _ _ => cases e1
    subst this
    rw [e2]
    simp [stepP, runP, pairO]
end
end Pg
set_option Elab.async false
set_option linter.all false
set_option maxRecDepth 100000
namespace Pg
open PySem PySem.Spec PyProof.Rows L2 Dn
/-! ### what burns, the lights in any order -/
def IsLa (h l : PyData) : Prop := l = lightsD (decLs l) ∧ Bn.LightsOk (decTs h) (decLs l) ∧ (decLs l).length ≤ 7
section
variable {ts : List Int} {cs : List Cord} {ls : List Lgt} {C : CS}
theorem burnt_exA (h : Hs ts cs) (l : Bn.LightsOk ts ls) (l7 : ls.length ≤ 7) (C : CS) : ∃ T, Bn.IsTales ts cs ls T ∧ m_burnt_tales [.d (houseD ts cs), .d (lightsD ls)] C = some (.d (talesD T), C) := by
  have := burnt_spec (C := C) (P := fun y => ∃ T, Bn.IsTales ts cs ls T ∧ y = (.d (talesD T), C)) h.ok l h.t7 h.c10 l7 fun T m => ⟨T, m, rfl⟩
  obtain ⟨y, e, T, m, rfl⟩ := this
  exact ⟨T, m, e⟩
theorem tales_isA (h : Hs ts cs) (l : Bn.LightsOk ts ls) (l7 : ls.length ≤ 7) : Bn.IsTales ts cs ls (tales ts cs ls) := by
  obtain ⟨T, m, _⟩ := burnt_exA h l l7 []
  have e : ∃ T, Bn.IsTales ts cs ls T := ⟨T, m⟩
  unfold tales
  rw [dif_pos e]
  exact e.choose_spec
noncomputable def p_burnt_any (h l : PyData) : Option PyData := open Classical in if IsH h ∧ IsLa h l then some (talesD (tales (decTs h) (decCs h) (decLs l))) else none
theorem br_burnt_any (h l : PyData) (C : CS) (r : PyData) (e : p_burnt_any h l = some r) : m_burnt_tales [.d h, .d l] C = some (.d r, C) := by
  unfold p_burnt_any at e
  split at e
  · rename_i hh
    cases e
    obtain ⟨⟨h1, h2⟩, l1, l2, l3⟩ := hh
    obtain ⟨T, m, e⟩ := burnt_exA h2 l2 l3 C
    have := (tales_isA h2 l2 l3).uniq h2.ok m
    rw [← this] at e
    rw [← h1, ← l1] at e
    exact e
  · cases e
theorem burnt_any_eq (h : Hs ts cs) (l : Bn.LightsOk ts ls) (l7 : ls.length ≤ 7) : p_burnt_any (houseD ts cs) (lightsD ls) = some (talesD (tales ts cs ls)) := by
  unfold p_burnt_any
  rw [if_pos ⟨isH_of h, by unfold IsLa; rw [decLs_eq, decTs_eq]; exact ⟨rfl, l, l7⟩⟩, decTs_eq, decCs_eq, decLs_eq]
end
end Pg
set_option Elab.async false
set_option linter.all false
set_option maxRecDepth 100000
set_option maxHeartbeats 4000000
namespace Po
open PySem PySem.Spec PyProof.Rows L2 Dn
noncomputable def b_dark_by_light : DS := (dSeq (dDrop (dFz (dCall Pg.m_need_lights (dCons (dVar 0) (dCons (dVar 1) dNil)))))
    (dSeq (dAsg (dFz (dCall Pg.m_burnt_tales (dCons (dVar 0) (dCons (dVar 1) dNil)))) (dName 2))
    (dSeq (dFor (diRng1 (dCons (dCall (gLook fLen) (dCons (dOp gIx (dVar 0) (dC (.int 0))) dNil)) dNil)) (dName 3) (dIfS (dTidyT (dNot (dTest (dCall Pg.m_has_light (dCons (dVar 1) (dCons (dVar 3) dNil)))))) (dSeq (dAsg (dFz (dCall Pg.m_burnt_tales (dCons (dVar 0) (dCons (dCall gTup (dStar (dVar 1) (dCons (dCall gTup (dCons (dVar 3) (dCons (dC (.int 0)) dNil))) dNil))) dNil)))) (dName 4))
    (dFor (dIEnum (dCons (dVar 2) dNil)) (dgTup 2 (dgCons (dName 5) (dgCons (dName 6) dgNil))) (dIfS (dTidyT (dAnd (dTest (dOp gNeP (dVar 6) (dCall gTup dNil))) (dTest (dOp gEqP (dOp gIx (dVar 4) (dVar 5)) (dCall gTup dNil))))) (dRet (dCall gTup (dCons (dVar 3) (dCons (dVar 5) dNil)))) dNext))) dNext))
    (dRet (dC .none)))))
noncomputable def m_dark_by_light : DF := runF 2 7 b_dark_by_light
noncomputable def q_dark_by_light (v_house v_lights : PyData) : Option (Step Unit) :=
    (((((some v_house)).bind fun a2_0 => ((some v_lights)).bind fun a2_1 => Pg.p_need_lights a2_0 a2_1)).bind fun _ =>
    (((((some v_house)).bind fun a4_0 => ((some v_lights)).bind fun a4_1 => Pg.p_burnt_any a4_0 a4_1)).bind fun v_tales =>
    (((((((((some v_house)).bind fun x => ((some (PyData.int 0))).bind fun y => pIx x y)).bind (pLook fLen))).bind pRange1)).bind fun items => stepBind (pFor (σ := Unit) (fun x _ => (pU1 x).bind fun v_lit =>
    (stepBind (pIf (pNot (((((some v_lights)).bind fun a6_0 => ((some v_lit)).bind fun a6_1 => Pg.p_has_light a6_0 a6_1)).bind asB)) (((((some v_house)).bind fun a10_0 => ((((((some v_lights)).bind itemsOf)).bind fun a9_0 => ((((some v_lit)).bind fun a8_0 => ((some (PyData.int 0))).bind fun a8_1 => some (PyData.tuple [a8_0, a8_1]))).bind fun a9_1 => (if ((a9_0 ++ (a9_1 :: []))).length ≤ 10000 then some (PyData.tuple ((a9_0 ++ (a9_1 :: [])))) else none))).bind fun a10_1 => Pg.p_burnt_any a10_0 a10_1)).bind fun v_more =>
    (((((some v_tales)).bind pEnum)).bind fun items => stepBind (pFor (σ := Unit) (fun x _ => (pU2 x).bind fun (v_candle, v_tale) =>
    (pIf (pAnd ((((some v_tale)).bind fun x => ((some (PyData.tuple []))).bind fun y => pNe x y).bind asB) ((((((some v_more)).bind fun x => ((some v_candle)).bind fun y => pIx x y)).bind fun x => ((some (PyData.tuple []))).bind fun y => pEq x y).bind asB)) (((((some v_lit)).bind fun a13_0 => ((some v_candle)).bind fun a13_1 => some (PyData.tuple [a13_0, a13_1]))).bind fun x => some (Sum.inr x))
    (some (Sum.inl ())))) items ()) fun _ =>
    (some (Sum.inl ())))) (some (Sum.inl ())) : Option (Step (Unit))) fun _ =>
    (some (Sum.inl ())))) items ()) fun _ =>
    (((some PyData.none)).bind fun x => some (Sum.inr x)))))
@[irreducible] noncomputable def p_dark_by_light (v_house v_lights : PyData) : Option PyData := pRun (q_dark_by_light v_house v_lights)
theorem jb_dark_by_light (v_house v_lights : PyData) (B : FB) : JB B [some (.dat v_house), some (.dat v_lights), none, none, none, none, none] b_dark_by_light (fun _ : Unit => ([none, none, none, none, none, none, none] : AE)) (q_dark_by_light v_house v_lights) := by
  unfold q_dark_by_light b_dark_by_light
  exact (jb_drop ((jd_call (P := (fun xs => match xs with | [b1_0, b1_1] => Pg.p_need_lights b1_0 b1_1 | _ => none)) (ja_cons (jd_var rfl) (ja_cons (jd_var rfl) ja_nil)) (fun xs C r hl hp => match xs, hl, hp with | [b1_0, b1_1], _, hp => Pg.br_need_lights b1_0 b1_1 C r hp))).toF (jb_asg (A' := fun v_tales => ([some (.dat v_house), some (.dat v_lights), some (.dat v_tales), none, none, none, none] : AE)) ((jd_call (P := (fun xs => match xs with | [b3_0, b3_1] => Pg.p_burnt_any b3_0 b3_1 | _ => none)) (ja_cons (jd_var rfl) (ja_cons (jd_var rfl) ja_nil)) (fun xs C r hl hp => match xs, hl, hp with | [b3_0, b3_1], _, hp => Pg.br_burnt_any b3_0 b3_1 C r hp))).toF (fun _ => rfl) (fun v_tales => (jb_for (mk1 := (fun (_ : Unit) => ([some (.dat v_house), some (.dat v_lights), some (.dat v_tales), none, none, none, none] : AE))) (A1 := (fun (_ : Unit) v_lit => ([some (.dat v_house), some (.dat v_lights), some (.dat v_tales), some (.dat v_lit), none, none, none] : AE))) (ji_rng1 (jd_call1 f1_look (((jd_op opd_ix (((jd_var rfl)).toF).toO ((jd_c).toF).toO)).toF).toO)) (.keep _ (.keep _ (.keep _ (.keep _ (.keep _ (.keep _ (.keep _ .nil))))))) (fun _ => (jg_1 (fun _ => rfl))) (fun _ v_lit => (jb_one (jb_if (mk1 := (fun (_ : Unit) => ([some (.dat v_house), some (.dat v_lights), some (.dat v_tales), none, none, none, none] : AE))) (jt_not (jt_test (jd_call (P := (fun xs => match xs with | [b5_0, b5_1] => Pg.p_has_light b5_0 b5_1 | _ => none)) (ja_cons (jd_var rfl) (ja_cons (jd_var rfl) ja_nil)) (fun xs C r hl hp => match xs, hl, hp with | [b5_0, b5_1], _, hp => Pg.br_has_light b5_0 b5_1 C r hp)))) (jb_asg (A' := fun v_more => ([some (.dat v_house), some (.dat v_lights), some (.dat v_tales), some (.dat v_lit), some (.dat v_more), none, none] : AE)) ((jd_call (P := (fun xs => match xs with | [b7_0, b7_1] => Pg.p_burnt_any b7_0 b7_1 | _ => none)) (ja_cons (jd_var rfl) (ja_cons (saidD (((((some v_lights)).bind itemsOf)).bind fun a9_0 => ((((some v_lit)).bind fun a8_0 => ((some (PyData.int 0))).bind fun a8_1 => some (PyData.tuple [a8_0, a8_1]))).bind fun a9_1 => (if ((a9_0 ++ (a9_1 :: []))).length ≤ 10000 then some (PyData.tuple ((a9_0 ++ (a9_1 :: [])))) else none)) (jd_tupS (jo_star (((jd_var rfl)).toF).toO (jo_cons (jd_tup (ja_cons (jd_var rfl) (ja_cons jd_c ja_nil)) (by decide)) ja_nil.toO)))) ja_nil)) (fun xs C r hl hp => match xs, hl, hp with | [b7_0, b7_1], _, hp => Pg.br_burnt_any b7_0 b7_1 C r hp))).toF (fun _ => rfl) (fun v_more => (jb_one (jb_for (mk1 := (fun (_ : Unit) => ([some (.dat v_house), some (.dat v_lights), some (.dat v_tales), some (.dat v_lit), some (.dat v_more), none, none] : AE))) (A1 := (fun (_ : Unit) (v_candle, v_tale) => ([some (.dat v_house), some (.dat v_lights), some (.dat v_tales), some (.dat v_lit), some (.dat v_more), some (.dat v_candle), some (.dat v_tale)] : AE))) (ji_enum (jd_var rfl)) (.keep _ (.keep _ (.keep _ (.keep _ (.keep _ (.keep _ (.keep _ .nil))))))) (fun _ => (jg_2 (fun _ _ => rfl))) (fun _ ⟨v_candle, v_tale⟩ => (jb_one (jb_ifr (jt_and (jt_test (jd_op opd_ne (((jd_var rfl)).toF).toO (((jd_tup ja_nil (by decide))).toF).toO)) (jt_test (jd_op opd_eq (((jd_op opd_ix (((jd_var rfl)).toF).toO (((jd_var rfl)).toF).toO)).toF).toO (((jd_tup ja_nil (by decide))).toF).toO))) (jb_ret (jd_tup (ja_cons (jd_var rfl) (ja_cons (jd_var rfl) ja_nil)) (by decide))) (nn_bind fun _ => nn_ret) (jb_next (.keep _ (.keep _ (.keep _ (.keep _ (.keep _ (.drop _ (.drop _ .nil))))))))))) (fun _ => (jb_next (.keep _ (.keep _ (.keep _ (.drop _ (.drop _ (.keep _ (.keep _ .nil))))))))))))) (jb_next (.keep _ (.keep _ (.keep _ (.drop _ (.keep _ (.keep _ (.keep _ .nil)))))))) (fun _ => (jb_next (.keep _ (.keep _ (.keep _ (.keep _ (.keep _ (.keep _ (.keep _ .nil)))))))))))) (fun _ => (jb_ret jd_c))))))
theorem br_dark_by_light (v_house v_lights : PyData) (C : CS) (r : PyData) (h : p_dark_by_light v_house v_lights = some r) : m_dark_by_light [.d v_house, .d v_lights] C = some (.d r, C) := br_run (n := 2) (m := 7) (body := b_dark_by_light) (args := [v_house, v_lights]) (A := [some (.dat v_house), some (.dat v_lights), none, none, none, none, none]) (os := q_dark_by_light v_house v_lights) rfl rfl (fun B => jb_dark_by_light v_house v_lights B) (by unfold p_dark_by_light at h; exact h)
end Po
set_option Elab.async false
set_option linter.all false
set_option maxRecDepth 100000
set_option maxHeartbeats 1000000
namespace Pg
open PySem PySem.Spec PyProof.Rows L2 Dn
section
variable {ts : List Int} {cs : List Cord} {ls : List Lgt} {x : Int} {a : List Int}
def hasL (ls : List Lgt) (x : Int) : Bool := decide (x ∈ ls.map Prod.fst)
theorem has_light_eq (l : Ls ts ls) : p_has_light (lightsD ls) (.int x) = some (.bool (hasL ls x)) := by
  unfold p_has_light q_has_light
  simp only [Option.bind_some, itemsOf_t]
  rw [pMap_eq (enc := lgtD) (F := fun q => PyData.int q.1) (fun q _ => rfl) (by have := l.l7; omega)]
  have e : ls.map (fun q : Lgt => PyData.int q.1) = (ls.map Prod.fst).map .int := by rw [List.map_map]; rfl
  simp only [Option.map_some, e, Option.bind_some, pIn, pIn_ints, Bool.false_eq_true, if_false, pRun_some]
  rfl
noncomputable def byLight (ts : List Int) (cs : List Cord) (ls : List Lgt) : Option Lgt := (pairsTo ts.length ts.length).find? fun p => !hasL ls p.1 && (litIn ts cs ls p.2 && !litIn ts cs (ls ++ [(p.1, 0)]) p.2)
theorem more_ok (h : Hs ts cs) (l : Ls ts ls) {i : Int} (i0 : 0 ≤ i) (i1 : i < ts.length) (hn : hasL ls i = false) : Bn.LightsOk ts (ls ++ [(i, 0)]) ∧ (ls ++ [(i, 0)]).length ≤ 7 := by
  refine ⟨fun q hq => ?_, ?_⟩
  · rcases List.mem_append.mp hq with hq | hq
    · exact l.lights q hq
    · rw [List.mem_singleton.mp hq]
      exact ⟨i0, i1, Int.le_refl _⟩
  · obtain ⟨ls', _, L, hl⟩ := light_more (b := 0) l i0 i1 h.t7 (fun q hq e => by
      unfold hasL at hn
      have := of_decide_eq_false hn
      exact this (List.mem_map.mpr ⟨q, hq, e⟩)) (by omega) (by omega)
    have hn := of_decide_eq_false hn
    have nd : ((ls ++ [(i, (0 : Int))]).map Prod.fst).Nodup := by
      rw [List.map_append, List.nodup_append]
      refine ⟨l.lits.rise.imp fun h => by omega, by simp, fun a ha c hc => ?_⟩
      simp at hc
      subst hc
      exact fun z => hn (z ▸ ha)
    have := nodup_len (n := ts.length) nd fun f hf => by
      rw [List.map_append] at hf
      rcases List.mem_append.mp hf with hf | hf
      · obtain ⟨q, hq, rfl⟩ := List.mem_map.mp hf
        have := l.lits.ok q hq
        exact ⟨this.1, this.2.1⟩
      · simp at hf
        subst hf
        exact ⟨i0, i1⟩
    have := h.t7
    rw [List.length_map] at *
    omega
theorem dark_by_light_eq (h : Hs ts cs) (l : Ls ts ls) : Po.p_dark_by_light (houseD ts cs) (lightsD ls) = some (pairO (byLight ts cs ls)) := by
  unfold Po.p_dark_by_light Po.q_dark_by_light
  have h7 := h.t7
  have l7 := l.l7
  have hT := tales_len h l
  have r1 : pRange1 (.int (ts.length : Int)) = some ((numsTo ts.length).map .int) := by
    rw [range1_nat (by omega), rng_numsTo]
  have hi : pIx (houseD ts cs) (.int 0) = some (.tuple (ts.map .int)) := rfl
  refine eq_of_wo ?_
  simp only [Option.bind_some, need_lights_eq h l, burnt_any_eq h l.lights l7, hi, pLen_t, List.length_map]
  rw [r1, Option.bind_some, wo_pRun, wo_stepBind]
  unfold byLight
  unfold pairsTo
  rw [find_flat]
  refine wo_for_ret (fun items _ => ∃ rest : List Int, items = rest.map PyData.int ∧ (∀ i ∈ rest, 0 ≤ i ∧ i < ts.length) ∧ ((numsTo ts.length).findSome? fun a => ((numsTo ts.length).map fun x => (a, x)).find? fun p => !hasL ls p.1 && (litIn ts cs ls p.2 && !litIn ts cs (ls ++ [(p.1, 0)]) p.2)) = rest.findSome? fun a => ((numsTo ts.length).map fun x => (a, x)).find? fun p => !hasL ls p.1 && (litIn ts cs ls p.2 && !litIn ts cs (ls ++ [(p.1, 0)]) p.2)) ?_ ?_ ⟨_, rfl, fun i hi => numsTo_mem.mp hi, rfl⟩
  · rintro y xs st ⟨rest, e1, hr, e2⟩
    cases rest with
    | nil => cases e1
    | cons i rest =>
      rw [List.map_cons] at e1
      obtain ⟨rfl, rfl⟩ := List.cons.inj e1
      obtain ⟨i0, i1⟩ := hr i (by simp)
      rw [List.findSome?_cons, find_map] at e2
      simp only [pU1_eq, Option.bind_some, has_light_eq l, asB_bool, pNot_some]
      cases hb : hasL ls i with
      | true =>
        have en : ((numsTo ts.length).find? fun a => !hasL ls i && (litIn ts cs ls a && !litIn ts cs (ls ++ [(i, 0)]) a)) = none := by
          rw [List.find?_eq_none]
          intro x _
          simp [hb]
        rw [en] at e2
        rw [Bool.not_true, pIf_false, stepBind_inl, wo_some]
        exact .inl ⟨_, rfl, rest, rfl, fun z hz => hr z (List.mem_cons_of_mem _ hz), e2⟩
      | false =>
        obtain ⟨ok, ok7⟩ := more_ok h l i0 i1 hb
        have m := tales_isA h ok ok7 (cs := cs)
        have hT' : (tales ts cs (ls ++ [(i, 0)])).length = ts.length := m.len
        have eL : PyData.tuple (ls.map lgtD ++ [.tuple [.int i, .int 0]]) = lightsD (ls ++ [(i, 0)]) := by
          show _ = PyData.tuple ((ls ++ [(i, 0)]).map lgtD)
          rw [List.map_append]
          rfl
        have ol : (ls.map lgtD ++ [PyData.tuple [.int i, .int 0]]).length ≤ 10000 := by simp; omega
        rw [Bool.not_false, pIf_true]
        simp only [itemsOf_t, Option.bind_some]
        rw [if_pos ol, Option.bind_some, eL, burnt_any_eq h ok ok7, Option.bind_some, pEnum_t, Option.bind_some, tales_pairs, hT, wo_stepBind, wo_stepBind]
        refine wo_for_ret (fun items _ => ∃ more : List Int, items = more.map (fun x => .tuple [.int x, taleD (Bn.taleAt (tales ts cs ls) x)]) ∧ (∀ x ∈ more, 0 ≤ x ∧ x < ts.length) ∧ ((numsTo ts.length).find? fun a => !hasL ls i && (litIn ts cs ls a && !litIn ts cs (ls ++ [(i, 0)]) a)) = more.find? fun a => !hasL ls i && (litIn ts cs ls a && !litIn ts cs (ls ++ [(i, 0)]) a)) ?_ ?_ ⟨_, rfl, fun x hx => numsTo_mem.mp hx, rfl⟩
        · rintro y ys st ⟨more, e3, hm, e4⟩
          cases more with
          | nil => cases e3
          | cons x more =>
            rw [List.map_cons] at e3
            obtain ⟨rfl, rfl⟩ := List.cons.inj e3
            obtain ⟨x0, x1⟩ := hm x (by simp)
            have u2 : pU2 (.tuple [.int x, taleD (Bn.taleAt (tales ts cs ls) x)]) = some (.int x, taleD (Bn.taleAt (tales ts cs ls) x)) := rfl
            have q1 : pNe (taleD (Bn.taleAt (tales ts cs ls) x)) (.tuple []) = some (.bool (litIn ts cs ls x)) := (empty_t (t := Bn.taleAt (tales ts cs ls) x)).2
            have q2 : pEq (taleD (Bn.taleAt (tales ts cs (ls ++ [(i, 0)])) x)) (.tuple []) = some (.bool !litIn ts cs (ls ++ [(i, 0)]) x) := by
              rw [(empty_t (t := Bn.taleAt (tales ts cs (ls ++ [(i, 0)])) x)).1]
              unfold litIn
              simp
            have q3 : L2.atI ((tales ts cs (ls ++ [(i, 0)])).map taleD) x = some (taleD (Bn.taleAt (tales ts cs (ls ++ [(i, 0)])) x)) := tale_at x0 (by rw [hT']; exact x1)
            have hp : (!hasL ls i && (litIn ts cs ls x && !litIn ts cs (ls ++ [(i, 0)]) x)) = (litIn ts cs ls x && !litIn ts cs (ls ++ [(i, 0)]) x) := by rw [hb]; simp
            rw [List.find?_cons, hp] at e4
            simp only [u2, Option.bind_some, q1, pIx_t, q3, q2, asB_bool, pAnd]
            cases hc : (litIn ts cs ls x && !litIn ts cs (ls ++ [(i, 0)]) x) with
            | true =>
              rw [hc] at e4
              obtain ⟨b1, b2⟩ := Bool.and_eq_true_iff.mp hc
              rw [b1, b2, pIf_true, pIf_true, wo_some]
              refine .inr ⟨_, rfl, ?_⟩
              show Or _ _
              refine .inr ⟨_, rfl, ?_⟩
              rw [e4] at e2
              rw [e2]
              rfl
            | false =>
              rw [hc] at e4
              have hn : pIf (some (litIn ts cs ls x)) (some (!litIn ts cs (ls ++ [(i, 0)]) x)) (some false) = some false := by
                cases h1 : litIn ts cs ls x <;> cases h2 : litIn ts cs (ls ++ [(i, 0)]) x <;> simp [h1, h2, pIf] at hc ⊢
              rw [hn, pIf_false, wo_some]
              exact .inl ⟨_, rfl, more, rfl, fun z hz => hm z (List.mem_cons_of_mem _ hz), e4⟩
        · rintro st ⟨more, e3, hm, e4⟩
          have : more = [] := by cases more with
            | nil => rfl
            | cons _ _ => cases e3
          subst this
          rw [e4] at e2
          rw [stepP_inl, wo_some, stepP_inl, wo_some]
          exact .inl ⟨_, rfl, rest, rfl, fun z hz => hr z (List.mem_cons_of_mem _ hz), e2⟩
  · rintro st ⟨rest, e1, hr, e2⟩
    have : rest = [] := by cases rest with
      | nil => rfl
      | cons _ _ => cases e1
    subst this
    rw [e2]
    simp [stepP, runP, pairO]
end
end Pg
set_option linter.all false
namespace Bn
/-! ### a table of numbers alone, checked -/
instance {a b : Emb} : Decidable (eLe a b) := by unfold eLe; infer_instance
def okAt (ts : List Int) (cs : List Cord) (ls : List Lgt) (T : Tales) (es : List (List Emb)) (i : Nat) : Bool :=
  decide (taleAt T (i : Int) = taleOf (es.getD i [])) && (es.getD i []).all (fun e => decide (1 ≤ e.2.1)) && decide ((es.getD i []).Pairwise eLe) && decide ((embs ts cs ls T (i : Int)).Perm (es.getD i []))
def okT (ts : List Int) (cs : List Cord) (ls : List Lgt) (T : Tales) (es : List (List Emb)) : Bool :=
  decide (T.length = ts.length) && (List.range ts.length).all (okAt ts cs ls T es)
theorem isTales_ok {ts : List Int} {cs : List Cord} {ls : List Lgt} {T : Tales} (h : HouseOk ts cs) (es : List (List Emb)) (ok : okT ts cs ls T es = true) : IsTales ts cs ls T := by
  unfold okT at ok
  rw [Bool.and_eq_true] at ok
  refine isTales_by h (fun x => es.getD x.toNat []) (of_decide_eq_true ok.1) fun x x0 x1 => ?_
  have := List.all_eq_true.mp ok.2 x.toNat (List.mem_range.mpr (by omega))
  unfold okAt at this
  rw [show ((x.toNat : Nat) : Int) = x by omega] at this
  simp only [Bool.and_eq_true] at this
  obtain ⟨⟨⟨h1, h2⟩, h3⟩, h4⟩ := this
  refine ⟨of_decide_eq_true h1, fun e he => of_decide_eq_true (List.all_eq_true.mp h2 e he), of_decide_eq_true h3, fun e => (of_decide_eq_true h4).mem_iff⟩
def cordB (ts : List Int) (c : Cord) : Bool := decide (0 ≤ c.one) && decide (c.one < ts.length) && decide (1 ≤ c.at_) && decide (c.at_ ≤ topOf ts c.one - 1) && decide (0 ≤ c.oth) && decide (c.oth < ts.length) && decide (1 ≤ c.to) && decide (c.to ≤ topOf ts c.oth) && decide (1 ≤ c.lng)
theorem cord_ok {ts : List Int} {c : Cord} (h : cordB ts c = true) : CordOk ts c := by
  unfold cordB at h
  simp only [Bool.and_eq_true, decide_eq_true_eq] at h
  obtain ⟨⟨⟨⟨⟨⟨⟨⟨h1, h2⟩, h3⟩, h4⟩, h5⟩, h6⟩, h7⟩, h8⟩, h9⟩ := h
  exact ⟨h1, h2, h3, h4, h5, h6, h7, h8, h9⟩
end Bn
set_option linter.all false
namespace Bn
/-! ### a table reckoned, then checked -/
def insE (e : Emb) : List Emb → List Emb
  | [] => [e]
  | f :: es => if eLe e f then e :: f :: es else f :: insE e es
def ordE (es : List Emb) : List Emb := es.foldr insE []
def turnT (ts : List Int) (cs : List Cord) (ls : List Lgt) (T : Tales) : Tales := (List.range ts.length).map fun (i : Nat) => taleOf (ordE (embs ts cs ls T (i : Int)))
def turnsT (ts : List Int) (cs : List Cord) (ls : List Lgt) : Nat → Tales
  | 0 => List.replicate ts.length []
  | n + 1 => turnT ts cs ls (turnsT ts cs ls n)
def evalT (ts : List Int) (cs : List Cord) (ls : List Lgt) : Tales := turnsT ts cs ls 14
def runOk (ts : List Int) (cs : List Cord) (ls : List Lgt) : Bool := okT ts cs ls (evalT ts cs ls) ((List.range ts.length).map fun (i : Nat) => ordE (embs ts cs ls (evalT ts cs ls) (i : Int)))
theorem eval_tales {ts : List Int} {cs : List Cord} {ls : List Lgt} (h : HouseOk ts cs) (ok : runOk ts cs ls = true) : IsTales ts cs ls (evalT ts cs ls) := isTales_ok h _ ok
end Bn
set_option Elab.async false
set_option linter.all false
set_option maxRecDepth 100000
set_option maxHeartbeats 1000000
namespace Pg
open PySem PySem.Spec PyProof.Rows L2 Dn
/-! ### houses by hand: what is reckoned at beat 0, so much later -/
section
variable {ts : List Int} {cs : List Cord} {ls : List Lgt} {x late : Int} {b : Bool}
theorem hs_by (h : (ts.all (fun t => decide (1 ≤ t ∧ t ≤ 1000000)) && decide (1 ≤ ts.length ∧ ts.length ≤ 7) && decide (cs.length ≤ 10) && cs.all (fun c => Bn.cordB ts c && decide (c.2.2.2.2 ≤ 1000000))) = true) : Hs ts cs := by
  simp only [Bool.and_eq_true, List.all_eq_true, decide_eq_true_eq] at h
  obtain ⟨⟨⟨h1, h2⟩, h3⟩, h4⟩ := h
  exact ⟨⟨h2.1, h2.2, h1⟩, h3, ⟨fun t ht => (h1 t ht).1, fun c hc => Bn.cord_ok (h4 c hc).1⟩, fun c hc => (h4 c hc).2⟩
def litsB (ts : List Int) (ls : List Lgt) : Bool := ls.all (fun q => decide (0 ≤ q.1 ∧ q.1 < ts.length ∧ 0 ≤ q.2)) && decide (ls.length ≤ 7)
theorem tales_by (l0 : 0 ≤ late) (h : Hs ts cs) (l : litsB ts ls = true) (ok : Bn.runOk ts cs ls = true) : tales ts cs (ls.map (Bn.ledL 1 late)) = (Bn.evalT ts cs ls).map (List.map (Bn.ledS 1 late)) := by
  unfold litsB at l
  simp only [Bool.and_eq_true, List.all_eq_true, decide_eq_true_eq] at l
  obtain ⟨h2, h3⟩ := l
  have m' := Bn.isTales_led (d := late) (Int.le_refl 1) h.ok h2 (Bn.eval_tales h.ok ok)
  have e1 : ts.map (· * 1) = ts := by simp
  have e2 : cs.map (Bn.ledC 1) = cs := by
    rw [List.map_congr_left (g := id) fun c _ => by obtain ⟨a, b, c, d, e⟩ := c; simp [Bn.ledC], List.map_id]
  rw [e1, e2] at m'
  refine (tales_isA h (fun q hq => ?_) (by rw [List.length_map]; exact h3)).uniq h.ok m'
  obtain ⟨r, hr, rfl⟩ := List.mem_map.mp hq
  have := h2 r hr
  show 0 ≤ r.1 ∧ r.1 < ts.length ∧ 0 ≤ r.2 * 1 + late
  omega
def litE (ts : List Int) (cs : List Cord) (ls : List Lgt) (x : Int) : Bool := !(Bn.taleAt (Bn.evalT ts cs ls) x).isEmpty
theorem lit_eval (l0 : 0 ≤ late) (h : Hs ts cs) (l : litsB ts ls = true) (ok : Bn.runOk ts cs ls = true) : litIn ts cs (ls.map (Bn.ledL 1 late)) x = litE ts cs ls x := by
  have e := tales_by l0 h l ok
  unfold litIn litE
  rw [e]
  unfold Bn.taleAt
  rw [List.getD_eq_getElem?_getD, List.getD_eq_getElem?_getD, List.getElem?_map]
  cases (Bn.evalT ts cs ls)[x.toNat]? with
  | none => rfl
  | some t => simp
def allOk (ts : List Int) (cs : List Cord) (ls : List Lgt) : Bool := (picksOf (numsTo cs.length)).all fun is => Bn.runOk ts (leave cs is) ls
def fewE (ts : List Int) (cs : List Cord) (ls : List Lgt) (x : Int) (b : Bool) : Option (List Int) := (picksOf (numsTo cs.length)).find? fun is => litE ts (leave cs is) ls x == b
theorem find_same {α : Type} {p q : α → Bool} : ∀ {xs : List α}, (∀ x ∈ xs, p x = q x) → xs.find? p = xs.find? q
  | [], _ => rfl
  | x :: xs, h => by
    rw [List.find?_cons, List.find?_cons, h x (by simp), find_same fun y hy => h y (List.mem_cons_of_mem _ hy)]
theorem few_eval (l0 : 0 ≤ late) (h : Hs ts cs) (l : litsB ts ls = true) (ok : allOk ts cs ls = true) : fewest ts cs (ls.map (Bn.ledL 1 late)) x b = fewE ts cs ls x b := by
  unfold fewest fewE
  refine find_same fun is hi => ?_
  rw [lit_eval l0 (hs_leave h) l (List.all_eq_true.mp ok is hi)]
theorem led_at : [((x, late) : Lgt)] = [((x, 0) : Lgt)].map (Bn.ledL 1 late) := by simp [Bn.ledL]
/-- one light, at any beat: the least cords -/
theorem few_one (l0 : 0 ≤ late) (h : Hs ts cs) {i : Int} (l : litsB ts [(i, 0)] = true) (ok : allOk ts cs [(i, 0)] = true) : fewest ts cs [(i, late)] x b = fewE ts cs [(i, 0)] x b := by
  rw [led_at]
  exact few_eval l0 h l ok
theorem ls_one {i : Int} (i0 : 0 ≤ i) (i1 : i < ts.length) (l0 : 0 ≤ late) (l1 : late ≤ 1000000) : Ls ts [(i, late)] :=
  ⟨⟨by simp, fun q hq => by rw [List.mem_singleton.mp hq]; exact ⟨i0, i1, l0, l1⟩⟩, by simp⟩
theorem ls_bare : Ls ts [] := ⟨⟨by simp, by simp⟩, by simp⟩
/-- as reckoned, at the beats themselves -/
theorem lit_now (h : Hs ts cs) (l : litsB ts ls = true) (ok : Bn.runOk ts cs ls = true) : litIn ts cs ls x = litE ts cs ls x := by
  have := lit_eval (x := x) (Int.le_refl 0) h l ok
  have e : ls.map (Bn.ledL 1 0) = ls := by
    rw [List.map_congr_left (g := id) fun c _ => by simp [Bn.ledL], List.map_id]
  rwa [e] at this
theorem few_now (h : Hs ts cs) (l : litsB ts ls = true) (ok : allOk ts cs ls = true) : fewest ts cs ls x b = fewE ts cs ls x b := by
  have := few_eval (x := x) (b := b) (Int.le_refl 0) h l ok
  have e : ls.map (Bn.ledL 1 0) = ls := by
    rw [List.map_congr_left (g := id) fun c _ => by simp [Bn.ledL], List.map_id]
  rwa [e] at this
def byLightE (ts : List Int) (cs : List Cord) (ls : List Lgt) : Option Lgt := (pairsTo ts.length ts.length).find? fun p => !hasL ls p.1 && (litE ts cs ls p.2 && !litE ts cs (ls ++ [(p.1, 0)]) p.2)
def byLightOk (ts : List Int) (cs : List Cord) (ls : List Lgt) : Bool := litsB ts ls && Bn.runOk ts cs ls && (numsTo ts.length).all fun i => hasL ls i || (litsB ts (ls ++ [(i, 0)]) && Bn.runOk ts cs (ls ++ [(i, 0)]))
theorem pairs_mem {n m : Nat} {p : Lgt} (h : p ∈ pairsTo n m) : p.1 ∈ numsTo n ∧ p.2 ∈ numsTo m := by
  unfold pairsTo at h
  obtain ⟨a, ha, hp⟩ := List.mem_flatMap.mp h
  obtain ⟨c, hc, rfl⟩ := List.mem_map.mp hp
  exact ⟨ha, hc⟩
theorem byLight_now (h : Hs ts cs) (ok : byLightOk ts cs ls = true) : byLight ts cs ls = byLightE ts cs ls := by
  unfold byLightOk at ok
  simp only [Bool.and_eq_true, List.all_eq_true, Bool.or_eq_true] at ok
  obtain ⟨⟨o1, o2⟩, o3⟩ := ok
  unfold byLight byLightE
  refine find_same fun p hp => ?_
  rw [lit_now h o1 o2]
  cases hb : hasL ls p.1 with
  | true => rfl
  | false =>
    rcases o3 _ (pairs_mem hp).1 with o | ⟨o4, o5⟩
    · rw [hb] at o
      cases o
    · rw [lit_now h o4 o5]
def byCutE (ts : List Int) (cs : List Cord) (ls : List Lgt) : Option Lgt := (pairsTo cs.length ts.length).find? fun p => !litE ts cs ls p.2 && litE ts (leave cs [p.1]) ls p.2
def byCutOk (ts : List Int) (cs : List Cord) (ls : List Lgt) : Bool := litsB ts ls && Bn.runOk ts cs ls && (numsTo cs.length).all fun i => Bn.runOk ts (leave cs [i]) ls
theorem byCut_now (h : Hs ts cs) (ok : byCutOk ts cs ls = true) : byCut ts cs ls = byCutE ts cs ls := by
  unfold byCutOk at ok
  simp only [Bool.and_eq_true, List.all_eq_true] at ok
  obtain ⟨⟨o1, o2⟩, o3⟩ := ok
  unfold byCut byCutE
  refine find_same fun p hp => ?_
  rw [lit_now h o1 o2, lit_now (hs_leave h) o1 (o3 _ (pairs_mem hp).1)]
end
end Pg
set_option Elab.async false
set_option linter.all false
set_option maxRecDepth 100000
set_option maxHeartbeats 4000000
namespace Pm
open PySem PySem.Spec PyProof.Rows L2 Dn
noncomputable def b__law_box : DS := (dSeq (dAsg (dTidy (dOp gAdd (dOp gMulT (dC (.int 7919)) (dVar 1)) (dC (.int 13)))) (dName 2))
    (dSeq (dIfS (dTidyT (dTest (dOp gLt (dVar 1) (dCall (gLook fLen) (dCons (dVar 0) dNil))))) (dAsg (dTidy (dOp gIx (dVar 0) (dVar 1))) (dName 2)) dNext)
    (dSeq (dIfS (dTidyT (dTest (dOp gEqP (dOp gMod (dVar 2) (dC (.int 2))) (dC (.int 0))))) (dRet (dCall gLst (dCons (dOp gDiv (dVar 2) (dC (.int 2))) (dCons (dOp gMod (dCall gAbs (dCons (dVar 2) dNil)) (dC (.int 2147483647))) dNil)))) dNext)
    (dSeq (dAsg (dTidy (dC (.int 0))) (dName 3))
    (dSeq (dFor (diRng1 (dCons (dC (.int 16)) dNil)) (dName 4) (dSeq (dAsg (dTidy (dOp gMod (dOp gAdd (dOp gAdd (dOp gMulT (dOp gMod (dVar 2) (dC (.int 2147483647))) (dC (.int 48271))) (dOp gMulT (dC (.int 7919)) (dVar 4))) (dC (.int 1))) (dC (.int 2147483647)))) (dName 5))
    (dSeq (dAsg (dTidy (dOp gMod (dOp gMulT (dVar 5) (dVar 5)) (dC (.int 2147483629)))) (dName 5))
    (dAsg (dTidy (dOp gAdd (dOp gMulT (dVar 3) (dC (.int 2147483647))) (dOp gMod (dOp gMulT (dVar 5) (dOp gAdd (dVar 5) (dC (.int 13)))) (dC (.int 2147483647))))) (dName 3)))))
    (dRet (dCall gLst (dCons (dVar 3) (dCons (dOp gMod (dCall gAbs (dCons (dVar 2) dNil)) (dC (.int 2147483647))) dNil)))))))))
noncomputable def m__law_box : DF := runF 2 6 b__law_box
noncomputable def b__law_more : DS := (dSeq (dAsg (dTidy (dC (.int 0))) (dName 1))
    (dSeq (dFor (diRng1 (dCons (dC (.int 12)) dNil)) (dName 2) (dSeq (dAsg (dTidy (dOp gMod (dOp gAdd (dOp gMulT (dOp gIx (dVar 0) (dC (.int 1))) (dC (.int 48271))) (dC (.int 30269))) (dC (.int 2147483647)))) (dgSub (dVar 0) (dC (.int 1))))
    (dAsg (dTidy (dOp gAdd (dOp gMulT (dVar 1) (dC (.int 65521))) (dOp gMod (dOp gDiv (dOp gIx (dVar 0) (dC (.int 1))) (dC (.int 7))) (dC (.int 65521))))) (dName 1))))
    (dRet (dVar 1))))
noncomputable def m__law_more : DF := runF 1 3 b__law_more
noncomputable def b__law_take : DS := (dSeq (dIfS (dTidyT (dTest (dChain gLe gLt (dC (.int 0)) (dOp gIx (dVar 0) (dC (.int 0))) (dVar 1)))) (dAsg (dTidy (dOp gAdd (dOp gIx (dVar 0) (dC (.int 0))) (dOp gMulT (dVar 1) (dCall m__law_more (dCons (dVar 0) dNil))))) (dgSub (dVar 0) (dC (.int 0)))) dNext)
    (dSeq (dAsg (dTidy (dCall gDivmod (dCons (dOp gIx (dVar 0) (dC (.int 0))) (dCons (dVar 1) dNil)))) (dgTup 2 (dgCons (dName 2) (dgCons (dName 3) dgNil))))
    (dSeq (dAsg (dTidy (dVar 2)) (dgSub (dVar 0) (dC (.int 0))))
    (dRet (dVar 3)))))
noncomputable def m__law_take : DF := runF 2 4 b__law_take
end Pm
set_option Elab.async false
set_option linter.all false
set_option maxRecDepth 100000
namespace Pm
open PySem PySem.Spec PyProof.Rows L2 Dn
/-! ### the fourth family's pen: a box of two numbers, of any size -/
section
variable {C : CS} {n : Nat} {P : SV × CS → Prop}
theorem more_spec (h : StAt box C n) (k : ∀ v q, P (.d (.int v), C.set n (some (box q)))) : Wo (m__law_more [.c n] C) P := by
  have hn := h.lt
  obtain ⟨q0, hq0⟩ := h.eq
  unfold m__law_more
  rw [wo_run1]
  unfold b__law_more
  refine Dn.seq_of (fun e D => e = [some (.c n), some (.d (.int 0)), none] ∧ D = C.set n (some (box q0))) (by simp [← hq0]) fun e D he => ?_
  rw [he.1, he.2]
  clear he e D
  refine Dn.seq_of (fun e D => ∃ v q e2, e = [some (.c n), some (.d (.int v)), e2] ∧ D = C.set n (some (box q))) ?_ fun e D he => ?_
  · have hr : Wo (diRng1 (dCons (dC (.int 12)) dNil) [some (.c n), some (.d (.int 0)), none] (C.set n (some (box q0)))) fun y => y = (⟨rng 0 12, []⟩, C.set n (some (box q0))) := by
      simp [diRng1]
    rw [wo_for]
    refine hr.mono ?_
    rintro _ rfl
    refine loop_ind (fun e D => ∃ v q e2, e = [some (.c n), some (.d (.int v)), e2] ∧ D = C.set n (some (box q))) (fun _ _ _ => pin_nil) ?_ _ _ _ ⟨_, _, _, rfl, rfl⟩ ?_
    · rintro e D ⟨v, q, e2, rfl, rfl⟩
      exact ⟨_, _, rfl, v, q, e2, rfl, rfl⟩
    · rintro x hx e D ⟨v, q, e2, rfl, rfl⟩
      obtain ⟨t, rfl, _⟩ := mem_rng0 hx
      simp [dVar, dgSub, cellAt_set hn]
      exact ⟨_, _, rfl⟩
  · obtain ⟨v, q, e2, rfl, rfl⟩ := he
    simp [dVar]
    exact k v q
theorem take_spec {m : Int} (h : StAt box C n) (h0 : 0 < m) (h1 : m < 2 ^ 64) (k : ∀ v q, 0 ≤ v → v < m → P (.d (.int v), C.set n (some (box q)))) : Wo (m__law_take [.c n, .d (.int m)] C) P := by
  have hn := h.lt
  obtain ⟨q0, hq0⟩ := h.eq
  unfold m__law_take
  rw [wo_run2]
  unfold b__law_take
  have hm : m < 18446744073709551616 := by omega
  refine Dn.seq_of (fun e D => ∃ q, e = [some (.c n), some (.d (.int m)), none, none] ∧ D = C.set n (some (box q))) ?_ fun e D he => ?_
  · have hc : cellAt C n = some (box q0) := by rw [hq0]; exact cellAt_set hn
    simp [dVar, hc]
    split
    · split
      · refine more_spec h fun v q => ?_
        simp [hm, dgSub, cellAt_set hn, dVar]
        refine ⟨by omega, _, _, ⟨rfl, rfl⟩, rfl, _, _, rfl⟩
      · exact ⟨_, _, ⟨rfl, rfl⟩, rfl, q0.1, q0.2, hq0⟩
    · exact ⟨_, _, ⟨rfl, rfl⟩, rfl, q0.1, q0.2, hq0⟩
  · obtain ⟨q, rfl, rfl⟩ := he
    simp [dVar, dgSub, cellAt_set hn, h0, hm]
    exact k _ _ (Int.emod_nonneg _ (by omega)) (Int.emod_lt_of_pos _ h0)
theorem box_spec {ns : List Int} {j : Int} (hj : 0 ≤ j ∧ j ≤ 100) (hns : ns.length ≤ 63) (k : ∀ q, P (.c C.length, C ++ [some (box q)])) : Wo (m__law_box [.d (.list (ns.map .int)), .d (.int j)] C) P := by
  unfold m__law_box
  rw [wo_run2]
  unfold b__law_box
  refine Dn.seq_of (fun e D => ∃ i : Int, e = [some (.d (.list (ns.map .int))), some (.d (.int j)), some (.d (.int i)), none, none, none] ∧ D = C) ?_ fun e D he => ?_
  · simp [dVar]
  obtain ⟨i, rfl, hD⟩ := he
  rw [hD]
  clear hD D
  refine Dn.seq_of (fun e D => ∃ i : Int, e = [some (.d (.list (ns.map .int))), some (.d (.int j)), some (.d (.int i)), none, none, none] ∧ D = C) ?_ fun e D he => ?_
  · simp [dVar]
    intro h
    refine wo_at hj.1 (by simpa using h) fun x hx => ?_
    rw [List.getElem?_map] at hx
    obtain ⟨i, _, rfl⟩ := Option.map_eq_some_iff.mp hx
    exact ⟨_, rfl⟩
  obtain ⟨i, rfl, hD⟩ := he
  rw [hD]
  clear hD D
  simp [dVar, gLst]
  split
  · have := wo_finC (D := C) (k := C.length) (m := C.length) (ys := box (i / 2, (if i < 0 then -i else i) % 2147483647)) (P := P) rfl (Nat.le_refl _)
    rw [List.take_length] at this
    exact this.mpr (k _)
  · have hr : Wo (diRng1 (dCons (dC (.int 16)) dNil) [some (SV.d (PyData.list (List.map PyData.int ns))), some (SV.d (PyData.int j)), some (SV.d (PyData.int i)), some (SV.d (PyData.int 0)), none, none] C) fun y => y = (⟨rng 0 16, []⟩, C) := by
      simp [diRng1]
    rw [wo_for]
    refine hr.mono ?_
    rintro _ rfl
    refine loop_ind (fun e D => ∃ v e4 e5, e = [some (SV.d (PyData.list (List.map PyData.int ns))), some (SV.d (PyData.int j)), some (SV.d (PyData.int i)), some (.d (.int v)), e4, e5] ∧ D = C) (fun _ _ _ => pin_nil) ?_ _ _ _ ⟨_, _, _, rfl, rfl⟩ ?_
    · rintro e D ⟨v, e4, e5, rfl, hD⟩
      rw [hD]
      simp [dVar, gLst]
      have := wo_finC (D := C) (k := C.length) (m := C.length) (ys := box (v, (if i < 0 then -i else i) % 2147483647)) (P := P) rfl (Nat.le_refl _)
      rw [List.take_length] at this
      exact this.mpr (k _)
    · rintro x hx e D ⟨v, e4, e5, rfl, hD⟩
      obtain ⟨t, rfl, _⟩ := mem_rng0 hx
      rw [hD]
      simp [dVar]
      exact ⟨by omega, .inl (by omega)⟩
end
theorem sw_take : SpW m__law_take 2 1 (fun xs κ => match xs with | [m] => Ph.w_take m κ | _ => False) := fun C j q xs κ hq hc hl hw => by
  match xs, hl, hw with
  | [m], _, hw =>
    obtain ⟨k, rfl, h0, h1, hk⟩ := hw
    obtain ⟨a, b, rfl⟩ := Ph.two_of hq
    have h : StAt box C j := ⟨(a, b), hc⟩
    obtain ⟨y, e, x, q', rfl, h3⟩ := take_spec (P := fun y => ∃ x q', y = (.d x, C.set j (some (box q'))) ∧ κ x) h h0 h1 fun v q' v0 v1 => ⟨_, q', rfl, hk v v0 v1⟩
    exact ⟨x, [q'.1, q'.2], e, rfl, h3⟩
def w_box (s n : PyData) : Prop := ∃ (ns : List Int) (i : Int), s = .list (ns.map .int) ∧ n = .int i ∧ 0 ≤ i ∧ i ≤ 100 ∧ ns.length ≤ 63
theorem sn_box : SpN m__law_box 2 2 (fun xs => match xs with | [s, n] => w_box s n | _ => False) := fun C xs hl hw => by
  match xs, hl, hw with
  | [s, n], _, hw =>
    obtain ⟨ns, i, rfl, rfl, h0, h1, h2⟩ := hw
    obtain ⟨y, e, q, rfl⟩ := box_spec (P := fun y => ∃ q, y = (.c C.length, C ++ [some (box q)])) ⟨h0, h1⟩ h2 fun q => ⟨q, rfl⟩
    exact ⟨[q.1, q.2], e, rfl⟩
end Pm
set_option Elab.async false
set_option linter.all false
set_option maxRecDepth 100000
set_option maxHeartbeats 4000000
set_option Elab.async false
set_option linter.all false
set_option maxRecDepth 100000
set_option Elab.async false
set_option linter.all false
set_option maxRecDepth 100000
set_option maxHeartbeats 4000000
namespace K38
open PySem PySem.Spec PyProof.Rows L2 Dn
noncomputable def b__law_ways_right : DS := (dSeq (dAsg (dFz (dCall gTup (dCons (dCall gTup (dCons (dC (.int 3)) (dCons (dC (.int 3)) (dCons (dC (.int 3)) (dCons (dC (.int 3)) dNil))))) (dCons (dCall gTup (dCons (dCall gTup (dCons (dC (.int 0)) (dCons (dC (.int 2)) (dCons (dC (.int 1)) (dCons (dC (.int 3)) (dCons (dC (.int 1)) dNil)))))) (dCons (dCall gTup (dCons (dC (.int 0)) (dCons (dC (.int 1)) (dCons (dC (.int 2)) (dCons (dC (.int 3)) (dCons (dC (.int 1)) dNil)))))) (dCons (dCall gTup (dCons (dC (.int 1)) (dCons (dC (.int 1)) (dCons (dC (.int 3)) (dCons (dC (.int 3)) (dCons (dC (.int 1)) dNil)))))) (dCons (dCall gTup (dCons (dC (.int 2)) (dCons (dC (.int 1)) (dCons (dC (.int 3)) (dCons (dC (.int 3)) (dCons (dC (.int 1)) dNil)))))) dNil))))) dNil)))) (dName 1))
    (dSeq (dAsg (dFz (dCall gTup (dCons (dCall gTup (dCons (dC (.int 0)) (dCons (dVar 0) dNil))) dNil))) (dName 2))
    (dSeq (dIfS (dTidyT (dOr (dTest (dOp gNeP (dCall Pg.m_darkening (dCons (dVar 1) (dCons (dVar 2) (dCons (dC (.int 3)) dNil)))) (dCall gTup (dCons (dC (.int 0)) (dCons (dC (.int 1)) dNil))))) (dTest (dOp gNeP (dCallK Pg.m_darkening [2, 1, 0] (dCons (dC (.int 3)) (dCons (dVar 2) (dCons (dVar 1) dNil)))) (dCall gTup (dCons (dC (.int 0)) (dCons (dC (.int 1)) dNil))))))) (dRet (dC (.bool false))) dNext)
    (dSeq (dIfS (dTidyT (dTest (dOp gNeP (dCall gLst (dCons (dCall Pg.m_darkening (dCons (dVar 1) (dCons (dVar 2) (dCons (dC (.int 0)) dNil)))) (dCons (dCall Pg.m_darkening (dCons (dVar 1) (dCons (dVar 2) (dCons (dC (.int 1)) dNil)))) (dCons (dCall Pg.m_darkening (dCons (dVar 1) (dCons (dCall gTup dNil) (dCons (dC (.int 3)) dNil)))) dNil)))) (dCall gLst (dCons (dC .none) (dCons (dCall gTup (dCons (dC (.int 0)) dNil)) (dCons (dCall gTup dNil) dNil))))))) (dRet (dC (.bool false))) dNext)
    (dSeq (dIfS (dTidyT (dTest (dOp gNeP (dCall gLst (dCons (dCall Pg.m_lighting (dCons (dVar 1) (dCons (dVar 2) (dCons (dC (.int 3)) dNil)))) (dCons (dCallK Pg.m_lighting [2, 1, 0] (dCons (dC (.int 3)) (dCons (dCall gTup dNil) (dCons (dVar 1) dNil)))) dNil))) (dCall gLst (dCons (dCall gTup dNil) (dCons (dC .none) dNil)))))) (dRet (dC (.bool false))) dNext)
    (dSeq (dAsg (dFz (dCall gTup (dCons (dCall gTup (dCons (dC (.int 3)) (dCons (dC (.int 3)) (dCons (dC (.int 3)) dNil)))) (dCons (dCall gTup (dCons (dCall gTup (dCons (dC (.int 0)) (dCons (dC (.int 2)) (dCons (dC (.int 1)) (dCons (dC (.int 3)) (dCons (dC (.int 1)) dNil)))))) (dCons (dCall gTup (dCons (dC (.int 1)) (dCons (dC (.int 2)) (dCons (dC (.int 2)) (dCons (dC (.int 3)) (dCons (dC (.int 1)) dNil)))))) (dCons (dCall gTup (dCons (dC (.int 1)) (dCons (dC (.int 1)) (dCons (dC (.int 2)) (dCons (dC (.int 2)) (dCons (dC (.int 1)) dNil)))))) dNil)))) dNil)))) (dName 3))
    (dSeq (dIfS (dTidyT (dTest (dOp gNeP (dCall gLst (dCons (dCall Pg.m_darkening (dCons (dVar 3) (dCons (dVar 2) (dCons (dC (.int 2)) dNil)))) (dCons (dCall Pg.m_darkening (dCons (dVar 3) (dCons (dFz (dOp gAddV (dVar 2) (dCall gTup (dCons (dCall gTup (dCons (dC (.int 2)) (dCons (dC (.int 0)) dNil))) dNil)))) (dCons (dC (.int 2)) dNil)))) dNil))) (dCall gLst (dCons (dCall gTup (dCons (dC (.int 0)) dNil)) (dCons (dC .none) dNil)))))) (dRet (dC (.bool false))) dNext)
    (dRet (dOp gEqP (dCallK Pg.m_without [1, 0] (dCons (dCall gTup (dCons (dC (.int 0)) (dCons (dC (.int 2)) dNil))) (dCons (dVar 1) dNil))) (dCall gTup (dCons (dOp gIx (dVar 1) (dC (.int 0))) (dCons (dCall gTup (dCons (dOp gIx (dOp gIx (dVar 1) (dC (.int 1))) (dC (.int 1))) (dCons (dOp gIx (dOp gIx (dVar 1) (dC (.int 1))) (dC (.int 3))) dNil))) dNil))))))))))))
noncomputable def m__law_ways_right : DF := runF 1 4 b__law_ways_right
noncomputable def q__law_ways_right (v_law_by : PyData) : Option (Step Unit) :=
    (((((((some (PyData.int 3))).bind fun a38_0 => ((some (PyData.int 3))).bind fun a38_1 => ((some (PyData.int 3))).bind fun a38_2 => ((some (PyData.int 3))).bind fun a38_3 => some (PyData.tuple [a38_0, a38_1, a38_2, a38_3]))).bind fun a39_0 => ((((((some (PyData.int 0))).bind fun a36_0 => ((some (PyData.int 2))).bind fun a36_1 => ((some (PyData.int 1))).bind fun a36_2 => ((some (PyData.int 3))).bind fun a36_3 => ((some (PyData.int 1))).bind fun a36_4 => some (PyData.tuple [a36_0, a36_1, a36_2, a36_3, a36_4]))).bind fun a37_0 => ((((some (PyData.int 0))).bind fun a35_0 => ((some (PyData.int 1))).bind fun a35_1 => ((some (PyData.int 2))).bind fun a35_2 => ((some (PyData.int 3))).bind fun a35_3 => ((some (PyData.int 1))).bind fun a35_4 => some (PyData.tuple [a35_0, a35_1, a35_2, a35_3, a35_4]))).bind fun a37_1 => ((((some (PyData.int 1))).bind fun a34_0 => ((some (PyData.int 1))).bind fun a34_1 => ((some (PyData.int 3))).bind fun a34_2 => ((some (PyData.int 3))).bind fun a34_3 => ((some (PyData.int 1))).bind fun a34_4 => some (PyData.tuple [a34_0, a34_1, a34_2, a34_3, a34_4]))).bind fun a37_2 => ((((some (PyData.int 2))).bind fun a33_0 => ((some (PyData.int 1))).bind fun a33_1 => ((some (PyData.int 3))).bind fun a33_2 => ((some (PyData.int 3))).bind fun a33_3 => ((some (PyData.int 1))).bind fun a33_4 => some (PyData.tuple [a33_0, a33_1, a33_2, a33_3, a33_4]))).bind fun a37_3 => some (PyData.tuple [a37_0, a37_1, a37_2, a37_3]))).bind fun a39_1 => some (PyData.tuple [a39_0, a39_1]))).bind fun v_law_build =>
    (((((((some (PyData.int 0))).bind fun a40_0 => ((some v_law_by)).bind fun a40_1 => some (PyData.tuple [a40_0, a40_1]))).bind fun a41_0 => some (PyData.tuple [a41_0]))).bind fun v_law_fires =>
    (pIf (pOr ((((((some v_law_build)).bind fun a43_0 => ((some v_law_fires)).bind fun a43_1 => ((some (PyData.int 3))).bind fun a43_2 => Pg.p_darkening a43_0 a43_1 a43_2)).bind fun x => ((((some (PyData.int 0))).bind fun a44_0 => ((some (PyData.int 1))).bind fun a44_1 => some (PyData.tuple [a44_0, a44_1]))).bind fun y => pNe x y).bind asB) ((((((some (PyData.int 3))).bind fun b45_0 => ((some v_law_fires)).bind fun b45_1 => ((some v_law_build)).bind fun b45_2 => Pg.p_darkening b45_2 b45_1 b45_0)).bind fun x => ((((some (PyData.int 0))).bind fun a46_0 => ((some (PyData.int 1))).bind fun a46_1 => some (PyData.tuple [a46_0, a46_1]))).bind fun y => pNe x y).bind asB)) (((some (PyData.bool false))).bind fun x => some (Sum.inr x))
    (pIf ((((((((((some v_law_build)).bind fun a53_0 => ((some v_law_fires)).bind fun a53_1 => ((some (PyData.int 0))).bind fun a53_2 => Pg.p_darkening a53_0 a53_1 a53_2)).bind fun a54_0 => ((((some v_law_build)).bind fun a51_0 => ((some v_law_fires)).bind fun a51_1 => ((some (PyData.int 1))).bind fun a51_2 => Pg.p_darkening a51_0 a51_1 a51_2)).bind fun a54_1 => ((((some v_law_build)).bind fun a49_0 => ((some (PyData.tuple []))).bind fun a49_1 => ((some (PyData.int 3))).bind fun a49_2 => Pg.p_darkening a49_0 a49_1 a49_2)).bind fun a54_2 => some [a54_0, a54_1, a54_2])).map PyData.list)).bind fun x => ((((((some PyData.none)).bind fun a57_0 => ((((some (PyData.int 0))).bind fun a56_0 => some (PyData.tuple [a56_0]))).bind fun a57_1 => ((some (PyData.tuple []))).bind fun a57_2 => some [a57_0, a57_1, a57_2])).map PyData.list)).bind fun y => pNe x y).bind asB) (((some (PyData.bool false))).bind fun x => some (Sum.inr x))
    (pIf ((((((((((some v_law_build)).bind fun a61_0 => ((some v_law_fires)).bind fun a61_1 => ((some (PyData.int 3))).bind fun a61_2 => Pg.p_lighting a61_0 a61_1 a61_2)).bind fun a62_0 => ((((some (PyData.int 3))).bind fun b58_0 => ((some (PyData.tuple []))).bind fun b58_1 => ((some v_law_build)).bind fun b58_2 => Pg.p_lighting b58_2 b58_1 b58_0)).bind fun a62_1 => some [a62_0, a62_1])).map PyData.list)).bind fun x => ((((((some (PyData.tuple []))).bind fun a64_0 => ((some PyData.none)).bind fun a64_1 => some [a64_0, a64_1])).map PyData.list)).bind fun y => pNe x y).bind asB) (((some (PyData.bool false))).bind fun x => some (Sum.inr x))
    (((((((some (PyData.int 3))).bind fun a69_0 => ((some (PyData.int 3))).bind fun a69_1 => ((some (PyData.int 3))).bind fun a69_2 => some (PyData.tuple [a69_0, a69_1, a69_2]))).bind fun a70_0 => ((((((some (PyData.int 0))).bind fun a67_0 => ((some (PyData.int 2))).bind fun a67_1 => ((some (PyData.int 1))).bind fun a67_2 => ((some (PyData.int 3))).bind fun a67_3 => ((some (PyData.int 1))).bind fun a67_4 => some (PyData.tuple [a67_0, a67_1, a67_2, a67_3, a67_4]))).bind fun a68_0 => ((((some (PyData.int 1))).bind fun a66_0 => ((some (PyData.int 2))).bind fun a66_1 => ((some (PyData.int 2))).bind fun a66_2 => ((some (PyData.int 3))).bind fun a66_3 => ((some (PyData.int 1))).bind fun a66_4 => some (PyData.tuple [a66_0, a66_1, a66_2, a66_3, a66_4]))).bind fun a68_1 => ((((some (PyData.int 1))).bind fun a65_0 => ((some (PyData.int 1))).bind fun a65_1 => ((some (PyData.int 2))).bind fun a65_2 => ((some (PyData.int 2))).bind fun a65_3 => ((some (PyData.int 1))).bind fun a65_4 => some (PyData.tuple [a65_0, a65_1, a65_2, a65_3, a65_4]))).bind fun a68_2 => some (PyData.tuple [a68_0, a68_1, a68_2]))).bind fun a70_1 => some (PyData.tuple [a70_0, a70_1]))).bind fun v_law_narrow =>
    (pIf ((((((((((some v_law_narrow)).bind fun a76_0 => ((some v_law_fires)).bind fun a76_1 => ((some (PyData.int 2))).bind fun a76_2 => Pg.p_darkening a76_0 a76_1 a76_2)).bind fun a77_0 => ((((some v_law_narrow)).bind fun a74_0 => ((((some v_law_fires)).bind fun x => ((((((some (PyData.int 2))).bind fun a72_0 => ((some (PyData.int 0))).bind fun a72_1 => some (PyData.tuple [a72_0, a72_1]))).bind fun a73_0 => some (PyData.tuple [a73_0]))).bind fun y => pAdd x y)).bind fun a74_1 => ((some (PyData.int 2))).bind fun a74_2 => Pg.p_darkening a74_0 a74_1 a74_2)).bind fun a77_1 => some [a77_0, a77_1])).map PyData.list)).bind fun x => ((((((((some (PyData.int 0))).bind fun a78_0 => some (PyData.tuple [a78_0]))).bind fun a79_0 => ((some PyData.none)).bind fun a79_1 => some [a79_0, a79_1])).map PyData.list)).bind fun y => pNe x y).bind asB) (((some (PyData.bool false))).bind fun x => some (Sum.inr x))
    (((((((((some (PyData.int 0))).bind fun a81_0 => ((some (PyData.int 2))).bind fun a81_1 => some (PyData.tuple [a81_0, a81_1]))).bind fun b80_0 => ((some v_law_build)).bind fun b80_1 => Pg.p_without b80_1 b80_0)).bind fun x => ((((((some v_law_build)).bind fun x => ((some (PyData.int 0))).bind fun y => pIx x y)).bind fun a83_0 => ((((((((some v_law_build)).bind fun x => ((some (PyData.int 1))).bind fun y => pIx x y)).bind fun x => ((some (PyData.int 1))).bind fun y => pIx x y)).bind fun a82_0 => ((((((some v_law_build)).bind fun x => ((some (PyData.int 1))).bind fun y => pIx x y)).bind fun x => ((some (PyData.int 3))).bind fun y => pIx x y)).bind fun a82_1 => some (PyData.tuple [a82_0, a82_1]))).bind fun a83_1 => some (PyData.tuple [a83_0, a83_1]))).bind fun y => pEq x y)).bind fun x => some (Sum.inr x)))))))))
@[irreducible] noncomputable def p__law_ways_right (v_law_by : PyData) : Option PyData := pRun (q__law_ways_right v_law_by)
theorem jb__law_ways_right (v_law_by : PyData) (B : FB) : JB B [some (.dat v_law_by), none, none, none] b__law_ways_right (fun _ : Unit => ([none, none, none, none] : AE)) (q__law_ways_right v_law_by) := by
  unfold q__law_ways_right b__law_ways_right
  exact (jb_asg (A' := fun v_law_build => ([some (.dat v_law_by), some (.dat v_law_build), none, none] : AE)) ((jd_tup (ja_cons (saidD (((some (PyData.int 3))).bind fun a38_0 => ((some (PyData.int 3))).bind fun a38_1 => ((some (PyData.int 3))).bind fun a38_2 => ((some (PyData.int 3))).bind fun a38_3 => some (PyData.tuple [a38_0, a38_1, a38_2, a38_3])) (jd_tup (ja_cons jd_c (ja_cons jd_c (ja_cons jd_c (ja_cons jd_c ja_nil)))) (by decide))) (ja_cons (saidD (((((some (PyData.int 0))).bind fun a36_0 => ((some (PyData.int 2))).bind fun a36_1 => ((some (PyData.int 1))).bind fun a36_2 => ((some (PyData.int 3))).bind fun a36_3 => ((some (PyData.int 1))).bind fun a36_4 => some (PyData.tuple [a36_0, a36_1, a36_2, a36_3, a36_4]))).bind fun a37_0 => ((((some (PyData.int 0))).bind fun a35_0 => ((some (PyData.int 1))).bind fun a35_1 => ((some (PyData.int 2))).bind fun a35_2 => ((some (PyData.int 3))).bind fun a35_3 => ((some (PyData.int 1))).bind fun a35_4 => some (PyData.tuple [a35_0, a35_1, a35_2, a35_3, a35_4]))).bind fun a37_1 => ((((some (PyData.int 1))).bind fun a34_0 => ((some (PyData.int 1))).bind fun a34_1 => ((some (PyData.int 3))).bind fun a34_2 => ((some (PyData.int 3))).bind fun a34_3 => ((some (PyData.int 1))).bind fun a34_4 => some (PyData.tuple [a34_0, a34_1, a34_2, a34_3, a34_4]))).bind fun a37_2 => ((((some (PyData.int 2))).bind fun a33_0 => ((some (PyData.int 1))).bind fun a33_1 => ((some (PyData.int 3))).bind fun a33_2 => ((some (PyData.int 3))).bind fun a33_3 => ((some (PyData.int 1))).bind fun a33_4 => some (PyData.tuple [a33_0, a33_1, a33_2, a33_3, a33_4]))).bind fun a37_3 => some (PyData.tuple [a37_0, a37_1, a37_2, a37_3])) (jd_tup (ja_cons (saidD (((some (PyData.int 0))).bind fun a36_0 => ((some (PyData.int 2))).bind fun a36_1 => ((some (PyData.int 1))).bind fun a36_2 => ((some (PyData.int 3))).bind fun a36_3 => ((some (PyData.int 1))).bind fun a36_4 => some (PyData.tuple [a36_0, a36_1, a36_2, a36_3, a36_4])) (jd_tup (ja_cons jd_c (ja_cons jd_c (ja_cons jd_c (ja_cons jd_c (ja_cons jd_c ja_nil))))) (by decide))) (ja_cons (saidD (((some (PyData.int 0))).bind fun a35_0 => ((some (PyData.int 1))).bind fun a35_1 => ((some (PyData.int 2))).bind fun a35_2 => ((some (PyData.int 3))).bind fun a35_3 => ((some (PyData.int 1))).bind fun a35_4 => some (PyData.tuple [a35_0, a35_1, a35_2, a35_3, a35_4])) (jd_tup (ja_cons jd_c (ja_cons jd_c (ja_cons jd_c (ja_cons jd_c (ja_cons jd_c ja_nil))))) (by decide))) (ja_cons (saidD (((some (PyData.int 1))).bind fun a34_0 => ((some (PyData.int 1))).bind fun a34_1 => ((some (PyData.int 3))).bind fun a34_2 => ((some (PyData.int 3))).bind fun a34_3 => ((some (PyData.int 1))).bind fun a34_4 => some (PyData.tuple [a34_0, a34_1, a34_2, a34_3, a34_4])) (jd_tup (ja_cons jd_c (ja_cons jd_c (ja_cons jd_c (ja_cons jd_c (ja_cons jd_c ja_nil))))) (by decide))) (ja_cons (saidD (((some (PyData.int 2))).bind fun a33_0 => ((some (PyData.int 1))).bind fun a33_1 => ((some (PyData.int 3))).bind fun a33_2 => ((some (PyData.int 3))).bind fun a33_3 => ((some (PyData.int 1))).bind fun a33_4 => some (PyData.tuple [a33_0, a33_1, a33_2, a33_3, a33_4])) (jd_tup (ja_cons jd_c (ja_cons jd_c (ja_cons jd_c (ja_cons jd_c (ja_cons jd_c ja_nil))))) (by decide))) ja_nil)))) (by decide))) ja_nil)) (by decide))).toF (fun _ => rfl) (fun v_law_build => (jb_asg (A' := fun v_law_fires => ([some (.dat v_law_by), some (.dat v_law_build), some (.dat v_law_fires), none] : AE)) ((jd_tup (ja_cons (jd_tup (ja_cons jd_c (ja_cons (jd_var rfl) ja_nil)) (by decide)) ja_nil) (by decide))).toF (fun _ => rfl) (fun v_law_fires => (jb_ifr (jt_or (jt_test (jd_op opd_ne (((jd_call (P := (fun xs => match xs with | [b42_0, b42_1, b42_2] => Pg.p_darkening b42_0 b42_1 b42_2 | _ => none)) (ja_cons (jd_var rfl) (ja_cons (jd_var rfl) (ja_cons jd_c ja_nil))) (fun xs C r hl hp => match xs, hl, hp with | [b42_0, b42_1, b42_2], _, hp => Pg.br_darkening b42_0 b42_1 b42_2 C r hp))).toF).toO (((jd_tup (ja_cons jd_c (ja_cons jd_c ja_nil)) (by decide))).toF).toO)) (jt_test (jd_op opd_ne (((jd_callK (P := (fun xs => match xs with | [b45_0, b45_1, b45_2] => Pg.p_darkening b45_2 b45_1 b45_0 | _ => none)) (ja_cons jd_c (ja_cons (jd_var rfl) (ja_cons (jd_var rfl) ja_nil))) rfl (fun xs C r hl hp => match xs, hl, hp with | [b45_0, b45_1, b45_2], _, hp => Pg.br_darkening b45_2 b45_1 b45_0 C r hp))).toF).toO (((jd_tup (ja_cons jd_c (ja_cons jd_c ja_nil)) (by decide))).toF).toO))) (jb_ret jd_c) (nn_bind fun _ => nn_ret) (jb_ifr (jt_test (jd_op opd_ne (((jm_lst (ja_cons (jd_call (P := (fun xs => match xs with | [b52_0, b52_1, b52_2] => Pg.p_darkening b52_0 b52_1 b52_2 | _ => none)) (ja_cons (jd_var rfl) (ja_cons (jd_var rfl) (ja_cons jd_c ja_nil))) (fun xs C r hl hp => match xs, hl, hp with | [b52_0, b52_1, b52_2], _, hp => Pg.br_darkening b52_0 b52_1 b52_2 C r hp)) (ja_cons (jd_call (P := (fun xs => match xs with | [b50_0, b50_1, b50_2] => Pg.p_darkening b50_0 b50_1 b50_2 | _ => none)) (ja_cons (jd_var rfl) (ja_cons (jd_var rfl) (ja_cons jd_c ja_nil))) (fun xs C r hl hp => match xs, hl, hp with | [b50_0, b50_1, b50_2], _, hp => Pg.br_darkening b50_0 b50_1 b50_2 C r hp)) (ja_cons (jd_call (P := (fun xs => match xs with | [b47_0, b47_1, b47_2] => Pg.p_darkening b47_0 b47_1 b47_2 | _ => none)) (ja_cons (jd_var rfl) (ja_cons (jd_tup ja_nil (by decide)) (ja_cons jd_c ja_nil))) (fun xs C r hl hp => match xs, hl, hp with | [b47_0, b47_1, b47_2], _, hp => Pg.br_darkening b47_0 b47_1 b47_2 C r hp)) ja_nil))) (by decide))).toF).toO (((jm_lst (ja_cons jd_c (ja_cons (jd_tup (ja_cons jd_c ja_nil) (by decide)) (ja_cons (jd_tup ja_nil (by decide)) ja_nil))) (by decide))).toF).toO)) (jb_ret jd_c) (nn_bind fun _ => nn_ret) (jb_ifr (jt_test (jd_op opd_ne (((jm_lst (ja_cons (jd_call (P := (fun xs => match xs with | [b60_0, b60_1, b60_2] => Pg.p_lighting b60_0 b60_1 b60_2 | _ => none)) (ja_cons (jd_var rfl) (ja_cons (jd_var rfl) (ja_cons jd_c ja_nil))) (fun xs C r hl hp => match xs, hl, hp with | [b60_0, b60_1, b60_2], _, hp => Pg.br_lighting b60_0 b60_1 b60_2 C r hp)) (ja_cons (jd_callK (P := (fun xs => match xs with | [b58_0, b58_1, b58_2] => Pg.p_lighting b58_2 b58_1 b58_0 | _ => none)) (ja_cons jd_c (ja_cons (jd_tup ja_nil (by decide)) (ja_cons (jd_var rfl) ja_nil))) rfl (fun xs C r hl hp => match xs, hl, hp with | [b58_0, b58_1, b58_2], _, hp => Pg.br_lighting b58_2 b58_1 b58_0 C r hp)) ja_nil)) (by decide))).toF).toO (((jm_lst (ja_cons (jd_tup ja_nil (by decide)) (ja_cons jd_c ja_nil)) (by decide))).toF).toO)) (jb_ret jd_c) (nn_bind fun _ => nn_ret) (jb_asg (A' := fun v_law_narrow => ([some (.dat v_law_by), some (.dat v_law_build), some (.dat v_law_fires), some (.dat v_law_narrow)] : AE)) ((jd_tup (ja_cons (jd_tup (ja_cons jd_c (ja_cons jd_c (ja_cons jd_c ja_nil))) (by decide)) (ja_cons (saidD (((((some (PyData.int 0))).bind fun a67_0 => ((some (PyData.int 2))).bind fun a67_1 => ((some (PyData.int 1))).bind fun a67_2 => ((some (PyData.int 3))).bind fun a67_3 => ((some (PyData.int 1))).bind fun a67_4 => some (PyData.tuple [a67_0, a67_1, a67_2, a67_3, a67_4]))).bind fun a68_0 => ((((some (PyData.int 1))).bind fun a66_0 => ((some (PyData.int 2))).bind fun a66_1 => ((some (PyData.int 2))).bind fun a66_2 => ((some (PyData.int 3))).bind fun a66_3 => ((some (PyData.int 1))).bind fun a66_4 => some (PyData.tuple [a66_0, a66_1, a66_2, a66_3, a66_4]))).bind fun a68_1 => ((((some (PyData.int 1))).bind fun a65_0 => ((some (PyData.int 1))).bind fun a65_1 => ((some (PyData.int 2))).bind fun a65_2 => ((some (PyData.int 2))).bind fun a65_3 => ((some (PyData.int 1))).bind fun a65_4 => some (PyData.tuple [a65_0, a65_1, a65_2, a65_3, a65_4]))).bind fun a68_2 => some (PyData.tuple [a68_0, a68_1, a68_2])) (jd_tup (ja_cons (saidD (((some (PyData.int 0))).bind fun a67_0 => ((some (PyData.int 2))).bind fun a67_1 => ((some (PyData.int 1))).bind fun a67_2 => ((some (PyData.int 3))).bind fun a67_3 => ((some (PyData.int 1))).bind fun a67_4 => some (PyData.tuple [a67_0, a67_1, a67_2, a67_3, a67_4])) (jd_tup (ja_cons jd_c (ja_cons jd_c (ja_cons jd_c (ja_cons jd_c (ja_cons jd_c ja_nil))))) (by decide))) (ja_cons (saidD (((some (PyData.int 1))).bind fun a66_0 => ((some (PyData.int 2))).bind fun a66_1 => ((some (PyData.int 2))).bind fun a66_2 => ((some (PyData.int 3))).bind fun a66_3 => ((some (PyData.int 1))).bind fun a66_4 => some (PyData.tuple [a66_0, a66_1, a66_2, a66_3, a66_4])) (jd_tup (ja_cons jd_c (ja_cons jd_c (ja_cons jd_c (ja_cons jd_c (ja_cons jd_c ja_nil))))) (by decide))) (ja_cons (saidD (((some (PyData.int 1))).bind fun a65_0 => ((some (PyData.int 1))).bind fun a65_1 => ((some (PyData.int 2))).bind fun a65_2 => ((some (PyData.int 2))).bind fun a65_3 => ((some (PyData.int 1))).bind fun a65_4 => some (PyData.tuple [a65_0, a65_1, a65_2, a65_3, a65_4])) (jd_tup (ja_cons jd_c (ja_cons jd_c (ja_cons jd_c (ja_cons jd_c (ja_cons jd_c ja_nil))))) (by decide))) ja_nil))) (by decide))) ja_nil)) (by decide))).toF (fun _ => rfl) (fun v_law_narrow => (jb_ifr (jt_test (jd_op opd_ne (((jm_lst (ja_cons (jd_call (P := (fun xs => match xs with | [b75_0, b75_1, b75_2] => Pg.p_darkening b75_0 b75_1 b75_2 | _ => none)) (ja_cons (jd_var rfl) (ja_cons (jd_var rfl) (ja_cons jd_c ja_nil))) (fun xs C r hl hp => match xs, hl, hp with | [b75_0, b75_1, b75_2], _, hp => Pg.br_darkening b75_0 b75_1 b75_2 C r hp)) (ja_cons (saidD (((some v_law_narrow)).bind fun a74_0 => ((((some v_law_fires)).bind fun x => ((((((some (PyData.int 2))).bind fun a72_0 => ((some (PyData.int 0))).bind fun a72_1 => some (PyData.tuple [a72_0, a72_1]))).bind fun a73_0 => some (PyData.tuple [a73_0]))).bind fun y => pAdd x y)).bind fun a74_1 => ((some (PyData.int 2))).bind fun a74_2 => Pg.p_darkening a74_0 a74_1 a74_2) (jd_call (P := (fun xs => match xs with | [b71_0, b71_1, b71_2] => Pg.p_darkening b71_0 b71_1 b71_2 | _ => none)) (ja_cons (jd_var rfl) (ja_cons (saidD (((some v_law_fires)).bind fun x => ((((((some (PyData.int 2))).bind fun a72_0 => ((some (PyData.int 0))).bind fun a72_1 => some (PyData.tuple [a72_0, a72_1]))).bind fun a73_0 => some (PyData.tuple [a73_0]))).bind fun y => pAdd x y) (jd_fz (jf_op opb_add (((jd_var rfl)).toF).toO (((jd_tup (ja_cons (jd_tup (ja_cons jd_c (ja_cons jd_c ja_nil)) (by decide)) ja_nil) (by decide))).toF).toO))) (ja_cons jd_c ja_nil))) (fun xs C r hl hp => match xs, hl, hp with | [b71_0, b71_1, b71_2], _, hp => Pg.br_darkening b71_0 b71_1 b71_2 C r hp))) ja_nil)) (by decide))).toF).toO (((jm_lst (ja_cons (jd_tup (ja_cons jd_c ja_nil) (by decide)) (ja_cons jd_c ja_nil)) (by decide))).toF).toO)) (jb_ret jd_c) (nn_bind fun _ => nn_ret) (jb_ret (jd_op opd_eq (((jd_callK (P := (fun xs => match xs with | [b80_0, b80_1] => Pg.p_without b80_1 b80_0 | _ => none)) (ja_cons (jd_tup (ja_cons jd_c (ja_cons jd_c ja_nil)) (by decide)) (ja_cons (jd_var rfl) ja_nil)) rfl (fun xs C r hl hp => match xs, hl, hp with | [b80_0, b80_1], _, hp => Pg.br_without b80_1 b80_0 C r hp))).toF).toO (((jd_tup (ja_cons (jd_op opd_ix (((jd_var rfl)).toF).toO ((jd_c).toF).toO) (ja_cons (saidD (((((((some v_law_build)).bind fun x => ((some (PyData.int 1))).bind fun y => pIx x y)).bind fun x => ((some (PyData.int 1))).bind fun y => pIx x y)).bind fun a82_0 => ((((((some v_law_build)).bind fun x => ((some (PyData.int 1))).bind fun y => pIx x y)).bind fun x => ((some (PyData.int 3))).bind fun y => pIx x y)).bind fun a82_1 => some (PyData.tuple [a82_0, a82_1])) (jd_tup (ja_cons (jd_op opd_ix (((jd_op opd_ix (((jd_var rfl)).toF).toO ((jd_c).toF).toO)).toF).toO ((jd_c).toF).toO) (ja_cons (jd_op opd_ix (((jd_op opd_ix (((jd_var rfl)).toF).toO ((jd_c).toF).toO)).toF).toO ((jd_c).toF).toO) ja_nil)) (by decide))) ja_nil)) (by decide))).toF).toO))))))))))))
theorem br__law_ways_right (v_law_by : PyData) (C : CS) (r : PyData) (h : p__law_ways_right v_law_by = some r) : m__law_ways_right [.d v_law_by] C = some (.d r, C) := br_run (n := 1) (m := 4) (body := b__law_ways_right) (args := [v_law_by]) (A := [some (.dat v_law_by), none, none, none]) (os := q__law_ways_right v_law_by) rfl rfl (fun B => jb__law_ways_right v_law_by B) (by unfold p__law_ways_right at h; exact h)
noncomputable def b__law_set_right : DS := (dSeq (dPar 1 2 (dCons (dCall gTup (dCons (dCall gTup (dCons (dC (.int 5)) (dCons (dC (.int 5)) (dCons (dC (.int 2)) dNil)))) (dCons (dCall gTup (dCons (dCall gTup (dCons (dC (.int 0)) (dCons (dC (.int 4)) (dCons (dC (.int 1)) (dCons (dC (.int 5)) (dCons (dC (.int 1)) dNil)))))) (dCons (dCall gTup (dCons (dC (.int 0)) (dCons (dC (.int 3)) (dCons (dC (.int 1)) (dCons (dC (.int 1)) (dCons (dC (.int 1)) dNil)))))) (dCons (dCall gTup (dCons (dC (.int 1)) (dCons (dC (.int 2)) (dCons (dC (.int 2)) (dCons (dC (.int 2)) (dCons (dC (.int 1)) dNil)))))) dNil)))) dNil))) (dCons (dCall gTup (dCons (dCall gTup (dCons (dC (.int 0)) (dCons (dVar 0) dNil))) dNil)) dNil)))
    (dSeq (dIfS (dTidyT (dTest (dOp gNeP (dCall gLst (dCons (dCall Pg.m_lighting (dCons (dVar 1) (dCons (dVar 2) (dCons (dC (.int 2)) dNil)))) (dCons (dCall Pg.m_darkening (dCons (dVar 1) (dCons (dVar 2) (dCons (dC (.int 2)) dNil)))) (dCons (dCall Pg.m_lit_by_cut (dCons (dVar 1) (dCons (dVar 2) dNil))) dNil)))) (dCall gLst (dCons (dCall gTup (dCons (dC (.int 1)) dNil)) (dCons (dCall gTup dNil) (dCons (dCall gTup (dCons (dC (.int 1)) (dCons (dC (.int 2)) dNil))) dNil))))))) (dRet (dC (.bool false))) dNext)
    (dSeq (dIfS (dTidyT (dOr (dTest (dOp gIsntU (dCallK Pg.m_lit_by_cut [1, 0] (dCons (dCall gTup dNil) (dCons (dVar 1) dNil))) (dC .none))) (dTest (dOp gIsntU (dCall Po.m_dark_by_light (dCons (dVar 1) (dCons (dVar 2) dNil))) (dC .none))))) (dRet (dC (.bool false))) dNext)
    (dSeq (dIfS (dTidyT (dOr (dTest (dOp gNeP (dCallK Po.m_dark_by_light [1, 0] (dCons (dCall gTup (dCons (dCall gTup (dCons (dC (.int 1)) (dCons (dFz (dOp gAddV (dVar 0) (dC (.int 9)))) dNil))) dNil)) (dCons (dVar 1) dNil))) (dCall gTup (dCons (dC (.int 0)) (dCons (dC (.int 2)) dNil))))) (dTest (dOp gNeP (dCall Po.m_dark_by_light (dCons (dVar 1) (dCons (dCall gTup (dCons (dCall gTup (dCons (dC (.int 1)) (dCons (dVar 0) dNil))) dNil)) dNil))) (dCall gTup (dCons (dC (.int 0)) (dCons (dC (.int 2)) dNil))))))) (dRet (dC (.bool false))) dNext)
    (dRet (dAndV (dOp gEqP (dCall Pg.m_lighting (dCons (dVar 1) (dCons (dCall gTup (dCons (dCall gTup (dCons (dC (.int 1)) (dCons (dFz (dOp gAddV (dVar 0) (dC (.int 9)))) dNil))) dNil)) (dCons (dC (.int 2)) dNil)))) (dCall gTup dNil)) (dOp gEqP (dCall Pg.m_darkening (dCons (dVar 1) (dCons (dCall gTup (dCons (dCall gTup (dCons (dC (.int 1)) (dCons (dFz (dOp gAddV (dVar 0) (dC (.int 9)))) dNil))) dNil)) (dCons (dC (.int 2)) dNil)))) (dCall gTup (dCons (dC (.int 2)) dNil)))))))))
noncomputable def m__law_set_right : DF := runF 1 3 b__law_set_right
noncomputable def q__law_set_right (v_law_by : PyData) : Option (Step Unit) :=
    (((((((some (PyData.int 5))).bind fun a113_0 => ((some (PyData.int 5))).bind fun a113_1 => ((some (PyData.int 2))).bind fun a113_2 => some (PyData.tuple [a113_0, a113_1, a113_2]))).bind fun a114_0 => ((((((some (PyData.int 0))).bind fun a111_0 => ((some (PyData.int 4))).bind fun a111_1 => ((some (PyData.int 1))).bind fun a111_2 => ((some (PyData.int 5))).bind fun a111_3 => ((some (PyData.int 1))).bind fun a111_4 => some (PyData.tuple [a111_0, a111_1, a111_2, a111_3, a111_4]))).bind fun a112_0 => ((((some (PyData.int 0))).bind fun a110_0 => ((some (PyData.int 3))).bind fun a110_1 => ((some (PyData.int 1))).bind fun a110_2 => ((some (PyData.int 1))).bind fun a110_3 => ((some (PyData.int 1))).bind fun a110_4 => some (PyData.tuple [a110_0, a110_1, a110_2, a110_3, a110_4]))).bind fun a112_1 => ((((some (PyData.int 1))).bind fun a109_0 => ((some (PyData.int 2))).bind fun a109_1 => ((some (PyData.int 2))).bind fun a109_2 => ((some (PyData.int 2))).bind fun a109_3 => ((some (PyData.int 1))).bind fun a109_4 => some (PyData.tuple [a109_0, a109_1, a109_2, a109_3, a109_4]))).bind fun a112_2 => some (PyData.tuple [a112_0, a112_1, a112_2]))).bind fun a114_1 => some (PyData.tuple [a114_0, a114_1]))).bind fun n_v_law_build => ((((((some (PyData.int 0))).bind fun a115_0 => ((some v_law_by)).bind fun a115_1 => some (PyData.tuple [a115_0, a115_1]))).bind fun a116_0 => some (PyData.tuple [a116_0]))).bind fun n_v_law_fires =>
    (fun v_law_build v_law_fires => (pIf ((((((((((some v_law_build)).bind fun a122_0 => ((some v_law_fires)).bind fun a122_1 => ((some (PyData.int 2))).bind fun a122_2 => Pg.p_lighting a122_0 a122_1 a122_2)).bind fun a123_0 => ((((some v_law_build)).bind fun a120_0 => ((some v_law_fires)).bind fun a120_1 => ((some (PyData.int 2))).bind fun a120_2 => Pg.p_darkening a120_0 a120_1 a120_2)).bind fun a123_1 => ((((some v_law_build)).bind fun a118_0 => ((some v_law_fires)).bind fun a118_1 => Pg.p_lit_by_cut a118_0 a118_1)).bind fun a123_2 => some [a123_0, a123_1, a123_2])).map PyData.list)).bind fun x => ((((((((some (PyData.int 1))).bind fun a126_0 => some (PyData.tuple [a126_0]))).bind fun a127_0 => ((some (PyData.tuple []))).bind fun a127_1 => ((((some (PyData.int 1))).bind fun a124_0 => ((some (PyData.int 2))).bind fun a124_1 => some (PyData.tuple [a124_0, a124_1]))).bind fun a127_2 => some [a127_0, a127_1, a127_2])).map PyData.list)).bind fun y => pNe x y).bind asB) (((some (PyData.bool false))).bind fun x => some (Sum.inr x))
    (pIf (pOr ((((((some (PyData.tuple []))).bind fun b128_0 => ((some v_law_build)).bind fun b128_1 => Pg.p_lit_by_cut b128_1 b128_0)).bind fun x => ((some PyData.none)).bind fun y => pIsnt x y).bind asB) ((((((some v_law_build)).bind fun a131_0 => ((some v_law_fires)).bind fun a131_1 => Po.p_dark_by_light a131_0 a131_1)).bind fun x => ((some PyData.none)).bind fun y => pIsnt x y).bind asB)) (((some (PyData.bool false))).bind fun x => some (Sum.inr x))
    (pIf (pOr ((((((((((some (PyData.int 1))).bind fun a133_0 => ((((some v_law_by)).bind fun x => ((some (PyData.int 9))).bind fun y => pAdd x y)).bind fun a133_1 => some (PyData.tuple [a133_0, a133_1]))).bind fun a134_0 => some (PyData.tuple [a134_0]))).bind fun b132_0 => ((some v_law_build)).bind fun b132_1 => Po.p_dark_by_light b132_1 b132_0)).bind fun x => ((((some (PyData.int 0))).bind fun a135_0 => ((some (PyData.int 2))).bind fun a135_1 => some (PyData.tuple [a135_0, a135_1]))).bind fun y => pNe x y).bind asB) ((((((some v_law_build)).bind fun a139_0 => ((((((some (PyData.int 1))).bind fun a137_0 => ((some v_law_by)).bind fun a137_1 => some (PyData.tuple [a137_0, a137_1]))).bind fun a138_0 => some (PyData.tuple [a138_0]))).bind fun a139_1 => Po.p_dark_by_light a139_0 a139_1)).bind fun x => ((((some (PyData.int 0))).bind fun a140_0 => ((some (PyData.int 2))).bind fun a140_1 => some (PyData.tuple [a140_0, a140_1]))).bind fun y => pNe x y).bind asB)) (((some (PyData.bool false))).bind fun x => some (Sum.inr x))
    (((pIf (((((((some v_law_build)).bind fun a144_0 => ((((((some (PyData.int 1))).bind fun a142_0 => ((((some v_law_by)).bind fun x => ((some (PyData.int 9))).bind fun y => pAdd x y)).bind fun a142_1 => some (PyData.tuple [a142_0, a142_1]))).bind fun a143_0 => some (PyData.tuple [a143_0]))).bind fun a144_1 => ((some (PyData.int 2))).bind fun a144_2 => Pg.p_lighting a144_0 a144_1 a144_2)).bind fun x => ((some (PyData.tuple []))).bind fun y => pEq x y)).bind asB) (((((some v_law_build)).bind fun a149_0 => ((((((some (PyData.int 1))).bind fun a147_0 => ((((some v_law_by)).bind fun x => ((some (PyData.int 9))).bind fun y => pAdd x y)).bind fun a147_1 => some (PyData.tuple [a147_0, a147_1]))).bind fun a148_0 => some (PyData.tuple [a148_0]))).bind fun a149_1 => ((some (PyData.int 2))).bind fun a149_2 => Pg.p_darkening a149_0 a149_1 a149_2)).bind fun x => ((((some (PyData.int 2))).bind fun a150_0 => some (PyData.tuple [a150_0]))).bind fun y => pEq x y) (some (PyData.bool false)))).bind fun x => some (Sum.inr x)))))) n_v_law_build n_v_law_fires)
@[irreducible] noncomputable def p__law_set_right (v_law_by : PyData) : Option PyData := pRun (q__law_set_right v_law_by)
theorem jb__law_set_right (v_law_by : PyData) (B : FB) : JB B [some (.dat v_law_by), none, none] b__law_set_right (fun _ : Unit => ([none, none, none] : AE)) (q__law_set_right v_law_by) := by
  unfold q__law_set_right b__law_set_right
  exact (jb_parDD (A' := fun v_law_build v_law_fires => ([some (.dat v_law_by), some (.dat v_law_build), some (.dat v_law_fires)] : AE)) (ok := fun v_law_build v_law_fires => (pIf ((((((((((some v_law_build)).bind fun a122_0 => ((some v_law_fires)).bind fun a122_1 => ((some (PyData.int 2))).bind fun a122_2 => Pg.p_lighting a122_0 a122_1 a122_2)).bind fun a123_0 => ((((some v_law_build)).bind fun a120_0 => ((some v_law_fires)).bind fun a120_1 => ((some (PyData.int 2))).bind fun a120_2 => Pg.p_darkening a120_0 a120_1 a120_2)).bind fun a123_1 => ((((some v_law_build)).bind fun a118_0 => ((some v_law_fires)).bind fun a118_1 => Pg.p_lit_by_cut a118_0 a118_1)).bind fun a123_2 => some [a123_0, a123_1, a123_2])).map PyData.list)).bind fun x => ((((((((some (PyData.int 1))).bind fun a126_0 => some (PyData.tuple [a126_0]))).bind fun a127_0 => ((some (PyData.tuple []))).bind fun a127_1 => ((((some (PyData.int 1))).bind fun a124_0 => ((some (PyData.int 2))).bind fun a124_1 => some (PyData.tuple [a124_0, a124_1]))).bind fun a127_2 => some [a127_0, a127_1, a127_2])).map PyData.list)).bind fun y => pNe x y).bind asB) (((some (PyData.bool false))).bind fun x => some (Sum.inr x))
    (pIf (pOr ((((((some (PyData.tuple []))).bind fun b128_0 => ((some v_law_build)).bind fun b128_1 => Pg.p_lit_by_cut b128_1 b128_0)).bind fun x => ((some PyData.none)).bind fun y => pIsnt x y).bind asB) ((((((some v_law_build)).bind fun a131_0 => ((some v_law_fires)).bind fun a131_1 => Po.p_dark_by_light a131_0 a131_1)).bind fun x => ((some PyData.none)).bind fun y => pIsnt x y).bind asB)) (((some (PyData.bool false))).bind fun x => some (Sum.inr x))
    (pIf (pOr ((((((((((some (PyData.int 1))).bind fun a133_0 => ((((some v_law_by)).bind fun x => ((some (PyData.int 9))).bind fun y => pAdd x y)).bind fun a133_1 => some (PyData.tuple [a133_0, a133_1]))).bind fun a134_0 => some (PyData.tuple [a134_0]))).bind fun b132_0 => ((some v_law_build)).bind fun b132_1 => Po.p_dark_by_light b132_1 b132_0)).bind fun x => ((((some (PyData.int 0))).bind fun a135_0 => ((some (PyData.int 2))).bind fun a135_1 => some (PyData.tuple [a135_0, a135_1]))).bind fun y => pNe x y).bind asB) ((((((some v_law_build)).bind fun a139_0 => ((((((some (PyData.int 1))).bind fun a137_0 => ((some v_law_by)).bind fun a137_1 => some (PyData.tuple [a137_0, a137_1]))).bind fun a138_0 => some (PyData.tuple [a138_0]))).bind fun a139_1 => Po.p_dark_by_light a139_0 a139_1)).bind fun x => ((((some (PyData.int 0))).bind fun a140_0 => ((some (PyData.int 2))).bind fun a140_1 => some (PyData.tuple [a140_0, a140_1]))).bind fun y => pNe x y).bind asB)) (((some (PyData.bool false))).bind fun x => some (Sum.inr x))
    (((pIf (((((((some v_law_build)).bind fun a144_0 => ((((((some (PyData.int 1))).bind fun a142_0 => ((((some v_law_by)).bind fun x => ((some (PyData.int 9))).bind fun y => pAdd x y)).bind fun a142_1 => some (PyData.tuple [a142_0, a142_1]))).bind fun a143_0 => some (PyData.tuple [a143_0]))).bind fun a144_1 => ((some (PyData.int 2))).bind fun a144_2 => Pg.p_lighting a144_0 a144_1 a144_2)).bind fun x => ((some (PyData.tuple []))).bind fun y => pEq x y)).bind asB) (((((some v_law_build)).bind fun a149_0 => ((((((some (PyData.int 1))).bind fun a147_0 => ((((some v_law_by)).bind fun x => ((some (PyData.int 9))).bind fun y => pAdd x y)).bind fun a147_1 => some (PyData.tuple [a147_0, a147_1]))).bind fun a148_0 => some (PyData.tuple [a148_0]))).bind fun a149_1 => ((some (PyData.int 2))).bind fun a149_2 => Pg.p_darkening a149_0 a149_1 a149_2)).bind fun x => ((((some (PyData.int 2))).bind fun a150_0 => some (PyData.tuple [a150_0]))).bind fun y => pEq x y) (some (PyData.bool false)))).bind fun x => some (Sum.inr x)))))) (jd_tup (ja_cons (jd_tup (ja_cons jd_c (ja_cons jd_c (ja_cons jd_c ja_nil))) (by decide)) (ja_cons (saidD (((((some (PyData.int 0))).bind fun a111_0 => ((some (PyData.int 4))).bind fun a111_1 => ((some (PyData.int 1))).bind fun a111_2 => ((some (PyData.int 5))).bind fun a111_3 => ((some (PyData.int 1))).bind fun a111_4 => some (PyData.tuple [a111_0, a111_1, a111_2, a111_3, a111_4]))).bind fun a112_0 => ((((some (PyData.int 0))).bind fun a110_0 => ((some (PyData.int 3))).bind fun a110_1 => ((some (PyData.int 1))).bind fun a110_2 => ((some (PyData.int 1))).bind fun a110_3 => ((some (PyData.int 1))).bind fun a110_4 => some (PyData.tuple [a110_0, a110_1, a110_2, a110_3, a110_4]))).bind fun a112_1 => ((((some (PyData.int 1))).bind fun a109_0 => ((some (PyData.int 2))).bind fun a109_1 => ((some (PyData.int 2))).bind fun a109_2 => ((some (PyData.int 2))).bind fun a109_3 => ((some (PyData.int 1))).bind fun a109_4 => some (PyData.tuple [a109_0, a109_1, a109_2, a109_3, a109_4]))).bind fun a112_2 => some (PyData.tuple [a112_0, a112_1, a112_2])) (jd_tup (ja_cons (saidD (((some (PyData.int 0))).bind fun a111_0 => ((some (PyData.int 4))).bind fun a111_1 => ((some (PyData.int 1))).bind fun a111_2 => ((some (PyData.int 5))).bind fun a111_3 => ((some (PyData.int 1))).bind fun a111_4 => some (PyData.tuple [a111_0, a111_1, a111_2, a111_3, a111_4])) (jd_tup (ja_cons jd_c (ja_cons jd_c (ja_cons jd_c (ja_cons jd_c (ja_cons jd_c ja_nil))))) (by decide))) (ja_cons (saidD (((some (PyData.int 0))).bind fun a110_0 => ((some (PyData.int 3))).bind fun a110_1 => ((some (PyData.int 1))).bind fun a110_2 => ((some (PyData.int 1))).bind fun a110_3 => ((some (PyData.int 1))).bind fun a110_4 => some (PyData.tuple [a110_0, a110_1, a110_2, a110_3, a110_4])) (jd_tup (ja_cons jd_c (ja_cons jd_c (ja_cons jd_c (ja_cons jd_c (ja_cons jd_c ja_nil))))) (by decide))) (ja_cons (saidD (((some (PyData.int 1))).bind fun a109_0 => ((some (PyData.int 2))).bind fun a109_1 => ((some (PyData.int 2))).bind fun a109_2 => ((some (PyData.int 2))).bind fun a109_3 => ((some (PyData.int 1))).bind fun a109_4 => some (PyData.tuple [a109_0, a109_1, a109_2, a109_3, a109_4])) (jd_tup (ja_cons jd_c (ja_cons jd_c (ja_cons jd_c (ja_cons jd_c (ja_cons jd_c ja_nil))))) (by decide))) ja_nil))) (by decide))) ja_nil)) (by decide)) (jd_tup (ja_cons (jd_tup (ja_cons jd_c (ja_cons (jd_var rfl) ja_nil)) (by decide)) ja_nil) (by decide)) (fun _ _ => rfl) (fun v_law_build v_law_fires => (saidB ((pIf ((((((((((some v_law_build)).bind fun a122_0 => ((some v_law_fires)).bind fun a122_1 => ((some (PyData.int 2))).bind fun a122_2 => Pg.p_lighting a122_0 a122_1 a122_2)).bind fun a123_0 => ((((some v_law_build)).bind fun a120_0 => ((some v_law_fires)).bind fun a120_1 => ((some (PyData.int 2))).bind fun a120_2 => Pg.p_darkening a120_0 a120_1 a120_2)).bind fun a123_1 => ((((some v_law_build)).bind fun a118_0 => ((some v_law_fires)).bind fun a118_1 => Pg.p_lit_by_cut a118_0 a118_1)).bind fun a123_2 => some [a123_0, a123_1, a123_2])).map PyData.list)).bind fun x => ((((((((some (PyData.int 1))).bind fun a126_0 => some (PyData.tuple [a126_0]))).bind fun a127_0 => ((some (PyData.tuple []))).bind fun a127_1 => ((((some (PyData.int 1))).bind fun a124_0 => ((some (PyData.int 2))).bind fun a124_1 => some (PyData.tuple [a124_0, a124_1]))).bind fun a127_2 => some [a127_0, a127_1, a127_2])).map PyData.list)).bind fun y => pNe x y).bind asB) (((some (PyData.bool false))).bind fun x => some (Sum.inr x))
    (pIf (pOr ((((((some (PyData.tuple []))).bind fun b128_0 => ((some v_law_build)).bind fun b128_1 => Pg.p_lit_by_cut b128_1 b128_0)).bind fun x => ((some PyData.none)).bind fun y => pIsnt x y).bind asB) ((((((some v_law_build)).bind fun a131_0 => ((some v_law_fires)).bind fun a131_1 => Po.p_dark_by_light a131_0 a131_1)).bind fun x => ((some PyData.none)).bind fun y => pIsnt x y).bind asB)) (((some (PyData.bool false))).bind fun x => some (Sum.inr x))
    (pIf (pOr ((((((((((some (PyData.int 1))).bind fun a133_0 => ((((some v_law_by)).bind fun x => ((some (PyData.int 9))).bind fun y => pAdd x y)).bind fun a133_1 => some (PyData.tuple [a133_0, a133_1]))).bind fun a134_0 => some (PyData.tuple [a134_0]))).bind fun b132_0 => ((some v_law_build)).bind fun b132_1 => Po.p_dark_by_light b132_1 b132_0)).bind fun x => ((((some (PyData.int 0))).bind fun a135_0 => ((some (PyData.int 2))).bind fun a135_1 => some (PyData.tuple [a135_0, a135_1]))).bind fun y => pNe x y).bind asB) ((((((some v_law_build)).bind fun a139_0 => ((((((some (PyData.int 1))).bind fun a137_0 => ((some v_law_by)).bind fun a137_1 => some (PyData.tuple [a137_0, a137_1]))).bind fun a138_0 => some (PyData.tuple [a138_0]))).bind fun a139_1 => Po.p_dark_by_light a139_0 a139_1)).bind fun x => ((((some (PyData.int 0))).bind fun a140_0 => ((some (PyData.int 2))).bind fun a140_1 => some (PyData.tuple [a140_0, a140_1]))).bind fun y => pNe x y).bind asB)) (((some (PyData.bool false))).bind fun x => some (Sum.inr x))
    (((pIf (((((((some v_law_build)).bind fun a144_0 => ((((((some (PyData.int 1))).bind fun a142_0 => ((((some v_law_by)).bind fun x => ((some (PyData.int 9))).bind fun y => pAdd x y)).bind fun a142_1 => some (PyData.tuple [a142_0, a142_1]))).bind fun a143_0 => some (PyData.tuple [a143_0]))).bind fun a144_1 => ((some (PyData.int 2))).bind fun a144_2 => Pg.p_lighting a144_0 a144_1 a144_2)).bind fun x => ((some (PyData.tuple []))).bind fun y => pEq x y)).bind asB) (((((some v_law_build)).bind fun a149_0 => ((((((some (PyData.int 1))).bind fun a147_0 => ((((some v_law_by)).bind fun x => ((some (PyData.int 9))).bind fun y => pAdd x y)).bind fun a147_1 => some (PyData.tuple [a147_0, a147_1]))).bind fun a148_0 => some (PyData.tuple [a148_0]))).bind fun a149_1 => ((some (PyData.int 2))).bind fun a149_2 => Pg.p_darkening a149_0 a149_1 a149_2)).bind fun x => ((((some (PyData.int 2))).bind fun a150_0 => some (PyData.tuple [a150_0]))).bind fun y => pEq x y) (some (PyData.bool false)))).bind fun x => some (Sum.inr x)))))) (jb_ifr (jt_test (jd_op opd_ne (((jm_lst (ja_cons (jd_call (P := (fun xs => match xs with | [b121_0, b121_1, b121_2] => Pg.p_lighting b121_0 b121_1 b121_2 | _ => none)) (ja_cons (jd_var rfl) (ja_cons (jd_var rfl) (ja_cons jd_c ja_nil))) (fun xs C r hl hp => match xs, hl, hp with | [b121_0, b121_1, b121_2], _, hp => Pg.br_lighting b121_0 b121_1 b121_2 C r hp)) (ja_cons (jd_call (P := (fun xs => match xs with | [b119_0, b119_1, b119_2] => Pg.p_darkening b119_0 b119_1 b119_2 | _ => none)) (ja_cons (jd_var rfl) (ja_cons (jd_var rfl) (ja_cons jd_c ja_nil))) (fun xs C r hl hp => match xs, hl, hp with | [b119_0, b119_1, b119_2], _, hp => Pg.br_darkening b119_0 b119_1 b119_2 C r hp)) (ja_cons (jd_call (P := (fun xs => match xs with | [b117_0, b117_1] => Pg.p_lit_by_cut b117_0 b117_1 | _ => none)) (ja_cons (jd_var rfl) (ja_cons (jd_var rfl) ja_nil)) (fun xs C r hl hp => match xs, hl, hp with | [b117_0, b117_1], _, hp => Pg.br_lit_by_cut b117_0 b117_1 C r hp)) ja_nil))) (by decide))).toF).toO (((jm_lst (ja_cons (jd_tup (ja_cons jd_c ja_nil) (by decide)) (ja_cons (jd_tup ja_nil (by decide)) (ja_cons (jd_tup (ja_cons jd_c (ja_cons jd_c ja_nil)) (by decide)) ja_nil))) (by decide))).toF).toO)) (jb_ret jd_c) (nn_bind fun _ => nn_ret) (jb_ifr (jt_or (jt_test (jd_op opd_isnt (((jd_callK (P := (fun xs => match xs with | [b128_0, b128_1] => Pg.p_lit_by_cut b128_1 b128_0 | _ => none)) (ja_cons (jd_tup ja_nil (by decide)) (ja_cons (jd_var rfl) ja_nil)) rfl (fun xs C r hl hp => match xs, hl, hp with | [b128_0, b128_1], _, hp => Pg.br_lit_by_cut b128_1 b128_0 C r hp))).toF).toO ((jd_c).toF).toO)) (jt_test (jd_op opd_isnt (((jd_call (P := (fun xs => match xs with | [b130_0, b130_1] => Po.p_dark_by_light b130_0 b130_1 | _ => none)) (ja_cons (jd_var rfl) (ja_cons (jd_var rfl) ja_nil)) (fun xs C r hl hp => match xs, hl, hp with | [b130_0, b130_1], _, hp => Po.br_dark_by_light b130_0 b130_1 C r hp))).toF).toO ((jd_c).toF).toO))) (jb_ret jd_c) (nn_bind fun _ => nn_ret) (jb_ifr (jt_or (jt_test (jd_op opd_ne (((jd_callK (P := (fun xs => match xs with | [b132_0, b132_1] => Po.p_dark_by_light b132_1 b132_0 | _ => none)) (ja_cons (jd_tup (ja_cons (jd_tup (ja_cons jd_c (ja_cons (jd_fz (jf_op opb_add (((jd_var rfl)).toF).toO ((jd_c).toF).toO)) ja_nil)) (by decide)) ja_nil) (by decide)) (ja_cons (jd_var rfl) ja_nil)) rfl (fun xs C r hl hp => match xs, hl, hp with | [b132_0, b132_1], _, hp => Po.br_dark_by_light b132_1 b132_0 C r hp))).toF).toO (((jd_tup (ja_cons jd_c (ja_cons jd_c ja_nil)) (by decide))).toF).toO)) (jt_test (jd_op opd_ne (((jd_call (P := (fun xs => match xs with | [b136_0, b136_1] => Po.p_dark_by_light b136_0 b136_1 | _ => none)) (ja_cons (jd_var rfl) (ja_cons (jd_tup (ja_cons (jd_tup (ja_cons jd_c (ja_cons (jd_var rfl) ja_nil)) (by decide)) ja_nil) (by decide)) ja_nil)) (fun xs C r hl hp => match xs, hl, hp with | [b136_0, b136_1], _, hp => Po.br_dark_by_light b136_0 b136_1 C r hp))).toF).toO (((jd_tup (ja_cons jd_c (ja_cons jd_c ja_nil)) (by decide))).toF).toO))) (jb_ret jd_c) (nn_bind fun _ => nn_ret) (jb_ret (jd_andV (jd_op opd_eq (((jd_call (P := (fun xs => match xs with | [b141_0, b141_1, b141_2] => Pg.p_lighting b141_0 b141_1 b141_2 | _ => none)) (ja_cons (jd_var rfl) (ja_cons (saidD (((((some (PyData.int 1))).bind fun a142_0 => ((((some v_law_by)).bind fun x => ((some (PyData.int 9))).bind fun y => pAdd x y)).bind fun a142_1 => some (PyData.tuple [a142_0, a142_1]))).bind fun a143_0 => some (PyData.tuple [a143_0])) (jd_tup (ja_cons (jd_tup (ja_cons jd_c (ja_cons (jd_fz (jf_op opb_add (((jd_var rfl)).toF).toO ((jd_c).toF).toO)) ja_nil)) (by decide)) ja_nil) (by decide))) (ja_cons jd_c ja_nil))) (fun xs C r hl hp => match xs, hl, hp with | [b141_0, b141_1, b141_2], _, hp => Pg.br_lighting b141_0 b141_1 b141_2 C r hp))).toF).toO (((jd_tup ja_nil (by decide))).toF).toO) (jd_op opd_eq (((jd_call (P := (fun xs => match xs with | [b146_0, b146_1, b146_2] => Pg.p_darkening b146_0 b146_1 b146_2 | _ => none)) (ja_cons (jd_var rfl) (ja_cons (saidD (((((some (PyData.int 1))).bind fun a147_0 => ((((some v_law_by)).bind fun x => ((some (PyData.int 9))).bind fun y => pAdd x y)).bind fun a147_1 => some (PyData.tuple [a147_0, a147_1]))).bind fun a148_0 => some (PyData.tuple [a148_0])) (jd_tup (ja_cons (jd_tup (ja_cons jd_c (ja_cons (jd_fz (jf_op opb_add (((jd_var rfl)).toF).toO ((jd_c).toF).toO)) ja_nil)) (by decide)) ja_nil) (by decide))) (ja_cons jd_c ja_nil))) (fun xs C r hl hp => match xs, hl, hp with | [b146_0, b146_1, b146_2], _, hp => Pg.br_darkening b146_0 b146_1 b146_2 C r hp))).toF).toO (((jd_tup (ja_cons jd_c ja_nil) (by decide))).toF).toO)))))))))
theorem br__law_set_right (v_law_by : PyData) (C : CS) (r : PyData) (h : p__law_set_right v_law_by = some r) : m__law_set_right [.d v_law_by] C = some (.d r, C) := br_run (n := 1) (m := 3) (body := b__law_set_right) (args := [v_law_by]) (A := [some (.dat v_law_by), none, none]) (os := q__law_set_right v_law_by) rfl rfl (fun B => jb__law_set_right v_law_by B) (by unfold p__law_set_right at h; exact h)
noncomputable def b_law_1 : DS := (dIfS (dTidyT (dOr (dNot (dTest (dCall m__law_ways_right (dCons (dCall Pm.m__law_take (dCons (dVar 2) (dCons (dOp gPow (dC (.int 10)) (dC (.int 6))) dNil))) dNil)))) (dNot (dTest (dCall m__law_set_right (dCons (dCall Pm.m__law_take (dCons (dVar 2) (dCons (dC (.int 2)) dNil))) dNil)))))) (dRet (dC (.bool false))) dNext)
def v_law_1 (v_law_k : PyData) (v_law_script : PyData) (Pn : Unit → Prop) (Pr : PyData → Prop) : Prop :=
    ((fun κ => (fun κ => (fun κ => (fun κ => ((fun κ => ((fun κ => Wo (((some (PyData.int 10))).bind fun x => ((some (PyData.int 6))).bind fun y => pPow x y) κ) fun a154_0 => Ph.w_take a154_0 κ)) fun a155_0 => Wo (p__law_ways_right a155_0) κ)) fun x => Wo (asB x) κ) fun b => κ !b) fun b => if b = true then κ true else (fun κ => (fun κ => (fun κ => ((fun κ => ((fun κ => Wo (some (PyData.int 2)) κ) fun a158_0 => Ph.w_take a158_0 κ)) fun a159_0 => Wo (p__law_set_right a159_0) κ)) fun x => Wo (asB x) κ) fun b => κ !b) κ) fun c => if c = true then (fun (Pn : Unit → Prop) (Pr : PyData → Prop) => ((fun κ => Wo (some (PyData.bool false)) κ) Pr)) (fun _ => False) Pr else
    (Pn ()))
theorem wb_law_1 (v_law_k : PyData) (v_law_script : PyData) (B : FB) : WB B [some (.dat v_law_script), some (.dat v_law_k), some (.pen 2)] b_law_1 (fun (_ : Unit) => ([some (.dat v_law_script), none, none] : AE)) (fun Pn Pr => v_law_1 v_law_k v_law_script Pn Pr) :=
  (show WB B [some (.dat v_law_script), some (.dat v_law_k), some (.pen 2)] (dIfS (dTidyT (dOr (dNot (dTest (dCall m__law_ways_right (dCons (dCall Pm.m__law_take (dCons (dVar 2) (dCons (dOp gPow (dC (.int 10)) (dC (.int 6))) dNil))) dNil)))) (dNot (dTest (dCall m__law_set_right (dCons (dCall Pm.m__law_take (dCons (dVar 2) (dCons (dC (.int 2)) dNil))) dNil)))))) (dRet (dC (.bool false))) dNext) (fun (_ : Unit) => ([some (.dat v_law_script), none, none] : AE)) (fun Pn Pr => ((fun κ => (fun κ => (fun κ => (fun κ => ((fun κ => ((fun κ => Wo (((some (PyData.int 10))).bind fun x => ((some (PyData.int 6))).bind fun y => pPow x y) κ) fun a154_0 => Ph.w_take a154_0 κ)) fun a155_0 => Wo (p__law_ways_right a155_0) κ)) fun x => Wo (asB x) κ) fun b => κ !b) fun b => if b = true then κ true else (fun κ => (fun κ => (fun κ => ((fun κ => ((fun κ => Wo (some (PyData.int 2)) κ) fun a158_0 => Ph.w_take a158_0 κ)) fun a159_0 => Wo (p__law_set_right a159_0) κ)) fun x => Wo (asB x) κ) fun b => κ !b) κ) fun c => if c = true then (fun (Pn : Unit → Prop) (Pr : PyData → Prop) => ((fun κ => Wo (some (PyData.bool false)) κ) Pr)) (fun _ => False) Pr else
    (Pn ()))) from (wb_one (wb_ifr (wt := (fun κ => (fun κ => (fun κ => (fun κ => ((fun κ => ((fun κ => Wo (((some (PyData.int 10))).bind fun x => ((some (PyData.int 6))).bind fun y => pPow x y) κ) fun a154_0 => Ph.w_take a154_0 κ)) fun a155_0 => Wo (p__law_ways_right a155_0) κ)) fun x => Wo (asB x) κ) fun b => κ !b) fun b => if b = true then κ true else (fun κ => (fun κ => (fun κ => ((fun κ => ((fun κ => Wo (some (PyData.int 2)) κ) fun a158_0 => Ph.w_take a158_0 κ)) fun a159_0 => Wo (p__law_set_right a159_0) κ)) fun x => Wo (asB x) κ) fun b => κ !b) κ)) (ws := (fun (Pn : Unit → Prop) (Pr : PyData → Prop) => ((fun κ => Wo (some (PyData.bool false)) κ) Pr))) (wk := (fun (Pn : Unit → Prop) (Pr : PyData → Prop) => (Pn ()))) (cT (w' := (fun κ => (fun κ => (fun κ => (fun κ => ((fun κ => ((fun κ => Wo (((some (PyData.int 10))).bind fun x => ((some (PyData.int 6))).bind fun y => pPow x y) κ) fun a154_0 => Ph.w_take a154_0 κ)) fun a155_0 => Wo (p__law_ways_right a155_0) κ)) fun x => Wo (asB x) κ) fun b => κ !b) fun b => if b = true then κ true else (fun κ => (fun κ => (fun κ => ((fun κ => ((fun κ => Wo (some (PyData.int 2)) κ) fun a158_0 => Ph.w_take a158_0 κ)) fun a159_0 => Wo (p__law_set_right a159_0) κ)) fun x => Wo (asB x) κ) fun b => κ !b) κ)) (wt_or (cT (w' := (fun κ => (fun κ => (fun κ => ((fun κ => ((fun κ => Wo (((some (PyData.int 10))).bind fun x => ((some (PyData.int 6))).bind fun y => pPow x y) κ) fun a154_0 => Ph.w_take a154_0 κ)) fun a155_0 => Wo (p__law_ways_right a155_0) κ)) fun x => Wo (asB x) κ) fun b => κ !b)) (wt_not (cT (w' := (fun κ => (fun κ => ((fun κ => ((fun κ => Wo (((some (PyData.int 10))).bind fun x => ((some (PyData.int 6))).bind fun y => pPow x y) κ) fun a154_0 => Ph.w_take a154_0 κ)) fun a155_0 => Wo (p__law_ways_right a155_0) κ)) fun x => Wo (asB x) κ)) (wt_test (cE (w' := (fun κ => ((fun κ => ((fun κ => Wo (((some (PyData.int 10))).bind fun x => ((some (PyData.int 6))).bind fun y => pPow x y) κ) fun a154_0 => Ph.w_take a154_0 κ)) fun a155_0 => Wo (p__law_ways_right a155_0) κ))) (we_call (P := (fun xs => match xs with | [b152_0] => p__law_ways_right b152_0 | _ => none)) (cA (w' := (fun κ => ((fun κ => ((fun κ => Wo (((some (PyData.int 10))).bind fun x => ((some (PyData.int 6))).bind fun y => pPow x y) κ) fun a154_0 => Ph.w_take a154_0 κ)) fun a155_0 => κ [a155_0]))) (wa_cons (cE (w' := (fun κ => ((fun κ => Wo (((some (PyData.int 10))).bind fun x => ((some (PyData.int 6))).bind fun y => pPow x y) κ) fun a154_0 => Ph.w_take a154_0 κ))) (we_callW Pm.sw_take rfl (cA (w' := (fun κ => ((fun κ => Wo (((some (PyData.int 10))).bind fun x => ((some (PyData.int 6))).bind fun y => pPow x y) κ) fun a154_0 => κ [a154_0]))) (wa_cons (cE (w' := (fun κ => Wo (((some (PyData.int 10))).bind fun x => ((some (PyData.int 6))).bind fun y => pPow x y) κ)) (JD.w (o := (((some (PyData.int 10))).bind fun x => ((some (PyData.int 6))).bind fun y => pPow x y)) (jd_op opd_pow ((jd_c).toF).toO ((jd_c).toF).toO)) rfl) wa_nil) rfl)) rfl) wa_nil) rfl) (fun xs C r hl hp => match xs, hl, hp with | [b152_0], _, hp => br__law_ways_right b152_0 C r hp)) rfl)) rfl)) rfl) (cT (w' := (fun κ => (fun κ => (fun κ => ((fun κ => ((fun κ => Wo (some (PyData.int 2)) κ) fun a158_0 => Ph.w_take a158_0 κ)) fun a159_0 => Wo (p__law_set_right a159_0) κ)) fun x => Wo (asB x) κ) fun b => κ !b)) (wt_not (cT (w' := (fun κ => (fun κ => ((fun κ => ((fun κ => Wo (some (PyData.int 2)) κ) fun a158_0 => Ph.w_take a158_0 κ)) fun a159_0 => Wo (p__law_set_right a159_0) κ)) fun x => Wo (asB x) κ)) (wt_test (cE (w' := (fun κ => ((fun κ => ((fun κ => Wo (some (PyData.int 2)) κ) fun a158_0 => Ph.w_take a158_0 κ)) fun a159_0 => Wo (p__law_set_right a159_0) κ))) (we_call (P := (fun xs => match xs with | [b156_0] => p__law_set_right b156_0 | _ => none)) (cA (w' := (fun κ => ((fun κ => ((fun κ => Wo (some (PyData.int 2)) κ) fun a158_0 => Ph.w_take a158_0 κ)) fun a159_0 => κ [a159_0]))) (wa_cons (cE (w' := (fun κ => ((fun κ => Wo (some (PyData.int 2)) κ) fun a158_0 => Ph.w_take a158_0 κ))) (we_callW Pm.sw_take rfl (cA (w' := (fun κ => ((fun κ => Wo (some (PyData.int 2)) κ) fun a158_0 => κ [a158_0]))) (wa_cons (cE (w' := (fun κ => Wo (some (PyData.int 2)) κ)) (JD.w (o := (some (PyData.int 2))) jd_c) rfl) wa_nil) rfl)) rfl) wa_nil) rfl) (fun xs C r hl hp => match xs, hl, hp with | [b156_0], _, hp => br__law_set_right b156_0 C r hp)) rfl)) rfl)) rfl)) rfl) (wb_ret (w := (fun κ => Wo (some (PyData.bool false)) κ)) (cE (w' := (fun κ => Wo (some (PyData.bool false)) κ)) (JD.w (o := (some (PyData.bool false))) jd_c) rfl)) (wb_next (.keep _ (.drop _ (.drop _ .nil)))))))
-- v_law_1
noncomputable def b_law : DS := (dSeq (dFor (diRng1 (dCons (dCall gMax2 (dCons (dC (.int 1)) (dCons (dCall gMin2 (dCons (dCall (gLook fLen) (dCons (dVar 0) dNil)) (dCons (dC (.int 3)) dNil))) dNil))) dNil)) (dName 1) (dSeq (dAsg (dTidy (dCall Pm.m__law_box (dCons (dVar 0) (dCons (dVar 1) dNil)))) (dName 2))
    b_law_1))
    (dRet (dC (.bool true))))
noncomputable def m_law : DF := runF 1 3 b_law
def v_law (v_law_script : PyData) (Pn : Unit → Prop) (Pr : PyData → Prop) : Prop :=
    ((fun κ => Wo (((((some (PyData.int 1))).bind fun x => ((((((some v_law_script)).bind (pLook fLen))).bind fun x => ((some (PyData.int 3))).bind fun y => pMin2 x y)).bind fun y => pMax2 x y)).bind pRange1) κ) fun items => ∃ J : List PyData → Unit → Prop, J items () ∧ (∀ x xs st, J (x :: xs) st → ∃ a, pU1 x = some a ∧ (fun v_law_k (_ : Unit) (Pn : Unit → Prop) (Pr : PyData → Prop) => (((fun κ => Wo (some v_law_script) κ) fun a151_0 => (fun κ => Wo (some v_law_k) κ) fun a151_1 => Pm.w_box a151_0 a151_1 ∧
    (v_law_1 v_law_k v_law_script Pn Pr)))) a st (J xs) Pr) ∧ ∀ st, J [] st → (fun (_ : Unit) (Pn : Unit → Prop) (Pr : PyData → Prop) => ((fun κ => Wo (some (PyData.bool true)) κ) Pr)) st Pn Pr)
@[irreducible] def w_law (v_law_script : PyData) (κ : PyData → Prop) : Prop := v_law v_law_script (fun _ => κ .none) κ
theorem wb_law (v_law_script : PyData) (B : FB) : WB B [some (.dat v_law_script), none, none] b_law (fun _ : Unit => ([none, none, none] : AE)) (fun Pn Pr => v_law v_law_script Pn Pr) :=
  (show WB B [some (.dat v_law_script), none, none] (dSeq (dFor (diRng1 (dCons (dCall gMax2 (dCons (dC (.int 1)) (dCons (dCall gMin2 (dCons (dCall (gLook fLen) (dCons (dVar 0) dNil)) (dCons (dC (.int 3)) dNil))) dNil))) dNil)) (dName 1) (dSeq (dAsg (dTidy (dCall Pm.m__law_box (dCons (dVar 0) (dCons (dVar 1) dNil)))) (dName 2))
    b_law_1))
    (dRet (dC (.bool true)))) (fun _ : Unit => ([none, none, none] : AE)) (fun Pn Pr => ((fun κ => Wo (((((some (PyData.int 1))).bind fun x => ((((((some v_law_script)).bind (pLook fLen))).bind fun x => ((some (PyData.int 3))).bind fun y => pMin2 x y)).bind fun y => pMax2 x y)).bind pRange1) κ) fun items => ∃ J : List PyData → Unit → Prop, J items () ∧ (∀ x xs st, J (x :: xs) st → ∃ a, pU1 x = some a ∧ (fun v_law_k (_ : Unit) (Pn : Unit → Prop) (Pr : PyData → Prop) => (((fun κ => Wo (some v_law_script) κ) fun a151_0 => (fun κ => Wo (some v_law_k) κ) fun a151_1 => Pm.w_box a151_0 a151_1 ∧
    (v_law_1 v_law_k v_law_script Pn Pr)))) a st (J xs) Pr) ∧ ∀ st, J [] st → (fun (_ : Unit) (Pn : Unit → Prop) (Pr : PyData → Prop) => ((fun κ => Wo (some (PyData.bool true)) κ) Pr)) st Pn Pr)) from (wb_for (wi := (fun κ => Wo (((((some (PyData.int 1))).bind fun x => ((((((some v_law_script)).bind (pLook fLen))).bind fun x => ((some (PyData.int 3))).bind fun y => pMin2 x y)).bind fun y => pMax2 x y)).bind pRange1) κ)) (mk1 := (fun (_ : Unit) => ([some (.dat v_law_script), none, none] : AE))) (A1 := (fun (_ : Unit) v_law_k => ([some (.dat v_law_script), some (.dat v_law_k), none] : AE))) (wb := (fun v_law_k (_ : Unit) (Pn : Unit → Prop) (Pr : PyData → Prop) => (((fun κ => Wo (some v_law_script) κ) fun a151_0 => (fun κ => Wo (some v_law_k) κ) fun a151_1 => Pm.w_box a151_0 a151_1 ∧
    (v_law_1 v_law_k v_law_script Pn Pr))))) (wk := (fun (_ : Unit) (Pn : Unit → Prop) (Pr : PyData → Prop) => ((fun κ => Wo (some (PyData.bool true)) κ) Pr))) (cI (w' := (fun κ => Wo (((((some (PyData.int 1))).bind fun x => ((((((some v_law_script)).bind (pLook fLen))).bind fun x => ((some (PyData.int 3))).bind fun y => pMin2 x y)).bind fun y => pMax2 x y)).bind pRange1) κ)) ((ji_rng1 (jd_call2 f2_max2 jd_c (jd_call2 f2_min2 (jd_call1 f1_look (((jd_var rfl)).toF).toO) jd_c)))).w rfl) (.keep _ (.keep _ (.keep _ .nil))) (fun _ => (jg_1 (fun _ => rfl))) (fun _ v_law_k => (wb_pen (A' := ([some (.dat v_law_script), some (.dat v_law_k), some (.pen 2)] : AE)) (wk := (fun (Pn : Unit → Prop) (Pr : PyData → Prop) => (v_law_1 v_law_k v_law_script Pn Pr))) Pm.sn_box (cA (w' := (fun κ => ((fun κ => Wo (some v_law_script) κ) fun a151_0 => (fun κ => Wo (some v_law_k) κ) fun a151_1 => κ [a151_0, a151_1]))) (wa_cons (cE (w' := (fun κ => Wo (some v_law_script) κ)) (JD.w (o := (some v_law_script)) (jd_var rfl)) rfl) (wa_cons (cE (w' := (fun κ => Wo (some v_law_k) κ)) (JD.w (o := (some v_law_k)) (jd_var rfl)) rfl) wa_nil)) rfl) rfl (wb_law_1 v_law_k v_law_script B))) (fun _ => (wb_ret (w := (fun κ => Wo (some (PyData.bool true)) κ)) (cE (w' := (fun κ => Wo (some (PyData.bool true)) κ)) (JD.w (o := (some (PyData.bool true))) jd_c) rfl)))))
theorem lw_law (v_law_script : PyData) {κ : PyData → Prop} (h : w_law v_law_script κ) (C : CS) : ∃ x, m_law [.d v_law_script] C = some (.d x, C) ∧ κ x := w_run0 (n := 1) (m := 3) (body := b_law) (args := [v_law_script]) (A := [some (.dat v_law_script), none, none]) rfl rfl (fun B => wb_law v_law_script B) (by unfold w_law at h; exact h)
theorem right_of (h : ∀ ns : List Int, ns.length ≤ 63 → w_law (.list (ns.map .int)) fun r => r = .bool true) : Right m_law := fun ns hl => by
  obtain ⟨x, e, rfl⟩ := lw_law _ (h ns hl) []
  exact ⟨_, e⟩
end K38
set_option Elab.async false
set_option linter.all false
set_option maxRecDepth 100000
set_option maxHeartbeats 4000000
namespace K38
open PySem PySem.Spec PyProof.Rows L2 Dn
def topS (i : Nat) : Stmt := PySem.Challenge.pw_stubcords_k38_cuts_by_hand_and_by_names.main.body.getD i (.Pass ⟨0, 0, 0, 0⟩)
abbrev s__law_box : Stmt := topS 47
abbrev N__law_box : List Str := ["_law_script", "_law_k", "_law_here", "_law_number", "_law_j", "_law_piece"]
theorem sc__law_box : FnScope N__law_box ["_law_script", "_law_k"] (defScope s__law_box) := ⟨rfl, rfl, rfl, by decide +kernel, rfl, by decide +kernel, by decide +kernel⟩
abbrev s__law_more : Stmt := topS 48
abbrev N__law_more : List Str := ["_law_box_here", "_law_number", "_law_j"]
theorem sc__law_more : FnScope N__law_more ["_law_box_here"] (defScope s__law_more) := ⟨rfl, rfl, rfl, by decide +kernel, rfl, by decide +kernel, by decide +kernel⟩
abbrev s__law_take : Stmt := topS 49
abbrev N__law_take : List Str := ["_law_box_here", "_law_count", "_law_rest_of", "_law_digit"]
theorem sc__law_take : FnScope N__law_take ["_law_box_here", "_law_count"] (defScope s__law_take) := ⟨rfl, rfl, rfl, by decide +kernel, rfl, by decide +kernel, by decide +kernel⟩
abbrev s_is_whole : Stmt := topS 9
abbrev N_is_whole : List Str := ["thing"]
theorem sc_is_whole : FnScope N_is_whole ["thing"] (defScope s_is_whole) := ⟨rfl, rfl, rfl, by decide +kernel, rfl, by decide +kernel, by decide +kernel⟩
abbrev s_is_from_to : Stmt := topS 10
abbrev N_is_from_to : List Str := ["thing", "low", "high"]
theorem sc_is_from_to : FnScope N_is_from_to ["thing", "low", "high"] (defScope s_is_from_to) := ⟨rfl, rfl, rfl, by decide +kernel, rfl, by decide +kernel, by decide +kernel⟩
abbrev s_are_rising : Stmt := topS 11
abbrev N_are_rising : List Str := ["numbers", "low", "high"]
theorem sc_are_rising : FnScope N_are_rising ["numbers"] (defScope s_are_rising) := ⟨rfl, rfl, rfl, by decide +kernel, rfl, by decide +kernel, by decide +kernel⟩
abbrev s_is_pick : Stmt := topS 12
abbrev N_is_pick : List Str := ["thing", "many", "number"]
theorem sc_is_pick : FnScope N_is_pick ["thing", "many"] (defScope s_is_pick) := ⟨rfl, rfl, rfl, by decide +kernel, rfl, by decide +kernel, by decide +kernel⟩
abbrev s_are_tops : Stmt := topS 20
abbrev N_are_tops : List Str := ["thing", "top"]
theorem sc_are_tops : FnScope N_are_tops ["thing"] (defScope s_are_tops) := ⟨rfl, rfl, rfl, by decide +kernel, rfl, by decide +kernel, by decide +kernel⟩
abbrev s_is_cord : Stmt := topS 22
abbrev N_is_cord : List Str := ["tops", "thing", "one", "at", "other", "to", "long"]
theorem sc_is_cord : FnScope N_is_cord ["tops", "thing"] (defScope s_is_cord) := ⟨rfl, rfl, rfl, by decide +kernel, rfl, by decide +kernel, by decide +kernel⟩
abbrev s_are_cords : Stmt := topS 21
abbrev N_are_cords : List Str := ["tops", "thing", "cord"]
theorem sc_are_cords : FnScope N_are_cords ["tops", "thing"] (defScope s_are_cords) := ⟨rfl, rfl, rfl, by decide +kernel, rfl, by decide +kernel, by decide +kernel⟩
abbrev s_is_house : Stmt := topS 19
abbrev N_is_house : List Str := ["thing", "tops", "cords"]
theorem sc_is_house : FnScope N_is_house ["thing"] (defScope s_is_house) := ⟨rfl, rfl, rfl, by decide +kernel, rfl, by decide +kernel, by decide +kernel⟩
abbrev s_need_house : Stmt := topS 27
abbrev N_need_house : List Str := ["house"]
theorem sc_need_house : FnScope N_need_house ["house"] (defScope s_need_house) := ⟨rfl, rfl, rfl, by decide +kernel, rfl, by decide +kernel, by decide +kernel⟩
abbrev s_cut_off : Stmt := topS 39
abbrev N_cut_off : List Str := ["house", "cords", "tops", "hung", "number", "cord"]
theorem sc_cut_off : FnScope N_cut_off ["house", "cords"] (defScope s_cut_off) := ⟨rfl, rfl, rfl, by decide +kernel, rfl, by decide +kernel, by decide +kernel⟩
abbrev s_without : Stmt := topS 38
abbrev N_without : List Str := ["house", "cords"]
theorem sc_without : FnScope N_without ["house", "cords"] (defScope s_without) := ⟨rfl, rfl, rfl, by decide +kernel, rfl, by decide +kernel, by decide +kernel⟩
abbrev s_picks_of : Stmt := topS 14
abbrev N_picks_of : List Str := ["numbers", "size", "pick"]
theorem sc_picks_of : FnScope N_picks_of ["numbers"] (defScope s_picks_of) := ⟨rfl, rfl, rfl, by decide +kernel, rfl, by decide +kernel, by decide +kernel⟩
abbrev s_all_picks : Stmt := topS 13
abbrev N_all_picks : List Str := ["many"]
theorem sc_all_picks : FnScope N_all_picks ["many"] (defScope s_all_picks) := ⟨rfl, rfl, rfl, by decide +kernel, rfl, by decide +kernel, by decide +kernel⟩
abbrev s_is_candle : Stmt := topS 23
abbrev N_is_candle : List Str := ["house", "thing"]
theorem sc_is_candle : FnScope N_is_candle ["house", "thing"] (defScope s_is_candle) := ⟨rfl, rfl, rfl, by decide +kernel, rfl, by decide +kernel, by decide +kernel⟩
abbrev s_is_light : Stmt := topS 25
abbrev N_is_light : List Str := ["house", "thing", "candle", "beat"]
theorem sc_is_light : FnScope N_is_light ["house", "thing"] (defScope s_is_light) := ⟨rfl, rfl, rfl, by decide +kernel, rfl, by decide +kernel, by decide +kernel⟩
abbrev s_are_lights : Stmt := topS 24
abbrev N_are_lights : List Str := ["house", "thing", "light", "candle", "beat"]
theorem sc_are_lights : FnScope N_are_lights ["house", "thing"] (defScope s_are_lights) := ⟨rfl, rfl, rfl, by decide +kernel, rfl, by decide +kernel, by decide +kernel⟩
abbrev s_need_lights : Stmt := topS 28
abbrev N_need_lights : List Str := ["house", "lights"]
theorem sc_need_lights : FnScope N_need_lights ["house", "lights"] (defScope s_need_lights) := ⟨rfl, rfl, rfl, by decide +kernel, rfl, by decide +kernel, by decide +kernel⟩
abbrev s_need_candle : Stmt := topS 29
abbrev N_need_candle : List Str := ["house", "candle"]
theorem sc_need_candle : FnScope N_need_candle ["house", "candle"] (defScope s_need_candle) := ⟨rfl, rfl, rfl, by decide +kernel, rfl, by decide +kernel, by decide +kernel⟩
abbrev s_embers_from : Stmt := topS 33
abbrev N_embers_from : List Str := ["house", "candle", "beat", "height", "embers", "number", "one", "at", "other", "to", "long"]
theorem sc_embers_from : FnScope N_embers_from ["house", "candle", "beat", "height"] (defScope s_embers_from) := ⟨rfl, rfl, rfl, by decide +kernel, rfl, by decide +kernel, by decide +kernel⟩
abbrev s_flame_in : Stmt := topS 36
abbrev N_flame_in : List Str := ["tale", "beat", "flame", "start", "height", "by"]
theorem sc_flame_in : FnScope N_flame_in ["tale", "beat"] (defScope s_flame_in) := ⟨rfl, rfl, rfl, by decide +kernel, rfl, by decide +kernel, by decide +kernel⟩
abbrev s_is_sent : Stmt := topS 34
abbrev N_is_sent : List Str := ["house", "tales", "beat", "rank", "one", "at", "other", "to", "long"]
theorem sc_is_sent : FnScope N_is_sent ["house", "tales", "beat", "rank"] (defScope s_is_sent) := ⟨rfl, rfl, rfl, by decide +kernel, rfl, by decide +kernel, by decide +kernel⟩
abbrev s_with_ember : Stmt := topS 35
abbrev N_with_ember : List Str := ["tale", "beat", "height", "rank"]
theorem sc_with_ember : FnScope N_with_ember ["tale", "beat", "height", "rank"] (defScope s_with_ember) := ⟨rfl, rfl, rfl, by decide +kernel, rfl, by decide +kernel, by decide +kernel⟩
abbrev s_burnt_tales : Stmt := topS 32
abbrev N_burnt_tales : List Str := ["house", "lights", "tops", "tales", "coming", "tale", "beat", "candle", "height", "rank", "ember"]
theorem sc_burnt_tales : FnScope N_burnt_tales ["house", "lights"] (defScope s_burnt_tales) := ⟨rfl, rfl, rfl, by decide +kernel, rfl, by decide +kernel, by decide +kernel⟩
abbrev s_is_lit : Stmt := topS 43
abbrev N_is_lit : List Str := ["house", "lights", "candle"]
theorem sc_is_lit : FnScope N_is_lit ["house", "lights", "candle"] (defScope s_is_lit) := ⟨rfl, rfl, rfl, by decide +kernel, rfl, by decide +kernel, by decide +kernel⟩
abbrev s_fewest_cords : Stmt := topS 42
abbrev N_fewest_cords : List Str := ["house", "lights", "candle", "lit", "cords"]
theorem sc_fewest_cords : FnScope N_fewest_cords ["house", "lights", "candle", "lit"] (defScope s_fewest_cords) := ⟨rfl, rfl, rfl, by decide +kernel, rfl, by decide +kernel, by decide +kernel⟩
abbrev s_darkening : Stmt := topS 40
abbrev N_darkening : List Str := ["house", "lights", "candle"]
theorem sc_darkening : FnScope N_darkening ["house", "lights", "candle"] (defScope s_darkening) := ⟨rfl, rfl, rfl, by decide +kernel, rfl, by decide +kernel, by decide +kernel⟩
abbrev s_lighting : Stmt := topS 41
abbrev N_lighting : List Str := ["house", "lights", "candle"]
theorem sc_lighting : FnScope N_lighting ["house", "lights", "candle"] (defScope s_lighting) := ⟨rfl, rfl, rfl, by decide +kernel, rfl, by decide +kernel, by decide +kernel⟩
abbrev s__law_ways_right : Stmt := topS 50
abbrev N__law_ways_right : List Str := ["_law_by", "_law_build", "_law_fires", "_law_narrow"]
theorem sc__law_ways_right : FnScope N__law_ways_right ["_law_by"] (defScope s__law_ways_right) := ⟨rfl, rfl, rfl, by decide +kernel, rfl, by decide +kernel, by decide +kernel⟩
abbrev s_lit_by_cut : Stmt := topS 44
abbrev N_lit_by_cut : List Str := ["house", "lights", "tales", "cord", "cut", "candle", "tale"]
theorem sc_lit_by_cut : FnScope N_lit_by_cut ["house", "lights"] (defScope s_lit_by_cut) := ⟨rfl, rfl, rfl, by decide +kernel, rfl, by decide +kernel, by decide +kernel⟩
abbrev s_has_light : Stmt := topS 26
abbrev N_has_light : List Str := ["lights", "candle", "lit", "beat"]
theorem sc_has_light : FnScope N_has_light ["lights", "candle"] (defScope s_has_light) := ⟨rfl, rfl, rfl, by decide +kernel, rfl, by decide +kernel, by decide +kernel⟩
abbrev s_dark_by_light : Stmt := topS 45
abbrev N_dark_by_light : List Str := ["house", "lights", "tales", "lit", "more", "candle", "tale"]
theorem sc_dark_by_light : FnScope N_dark_by_light ["house", "lights"] (defScope s_dark_by_light) := ⟨rfl, rfl, rfl, by decide +kernel, rfl, by decide +kernel, by decide +kernel⟩
abbrev s__law_set_right : Stmt := topS 51
abbrev N__law_set_right : List Str := ["_law_by", "_law_build", "_law_fires"]
theorem sc__law_set_right : FnScope N__law_set_right ["_law_by"] (defScope s__law_set_right) := ⟨rfl, rfl, rfl, by decide +kernel, rfl, by decide +kernel, by decide +kernel⟩
abbrev s_law : Stmt := topS 52
abbrev N_law : List Str := ["_law_script", "_law_k", "_law_box_here"]
theorem sc_law : FnScope N_law ["_law_script"] (defScope s_law) := ⟨rfl, rfl, rfl, by decide +kernel, rfl, by decide +kernel, by decide +kernel⟩
theorem B_abs : bootBuiltins "abs" = some (.builtin "abs") := by decide +kernel
theorem B_all : bootBuiltins "all" = some (.builtin "all") := by decide +kernel
theorem B_bool : bootBuiltins "bool" = some (.type "bool") := by decide +kernel
theorem B_divmod : bootBuiltins "divmod" = some (.builtin "divmod") := by decide +kernel
theorem B_int : bootBuiltins "int" = some (.type "int") := by decide +kernel
theorem B_isinstance : bootBuiltins "isinstance" = some (.builtin "isinstance") := by decide +kernel
theorem B_len : bootBuiltins "len" = some (.builtin "len") := by decide +kernel
theorem B_max : bootBuiltins "max" = some (.builtin "max") := by decide +kernel
theorem B_min : bootBuiltins "min" = some (.builtin "min") := by decide +kernel
theorem B_tuple : bootBuiltins "tuple" = some (.type "tuple") := by decide +kernel
structure Txt (K : PySem.W.Frag) (mg : Str → Option Value) where
  f__law_box : Addr
  d__law_box : FuncData
  F__law_box : Fun K "_law_box" "_law_box" s__law_box f__law_box d__law_box
  b__law_box : Binds K d__law_box ["_law_script", "_law_k"] []
  g__law_box : mg "_law_box" = some (.ref f__law_box)
  f__law_more : Addr
  d__law_more : FuncData
  F__law_more : Fun K "_law_more" "_law_more" s__law_more f__law_more d__law_more
  b__law_more : Binds K d__law_more ["_law_box_here"] []
  g__law_more : mg "_law_more" = some (.ref f__law_more)
  f__law_take : Addr
  d__law_take : FuncData
  F__law_take : Fun K "_law_take" "_law_take" s__law_take f__law_take d__law_take
  b__law_take : Binds K d__law_take ["_law_box_here", "_law_count"] []
  g__law_take : mg "_law_take" = some (.ref f__law_take)
  f_is_whole : Addr
  d_is_whole : FuncData
  F_is_whole : Fun K "is_whole" "is_whole" s_is_whole f_is_whole d_is_whole
  b_is_whole : Binds K d_is_whole ["thing"] []
  g_is_whole : mg "is_whole" = some (.ref f_is_whole)
  f_is_from_to : Addr
  d_is_from_to : FuncData
  F_is_from_to : Fun K "is_from_to" "is_from_to" s_is_from_to f_is_from_to d_is_from_to
  b_is_from_to : Binds K d_is_from_to ["thing", "low", "high"] []
  g_is_from_to : mg "is_from_to" = some (.ref f_is_from_to)
  f_are_rising : Addr
  d_are_rising : FuncData
  F_are_rising : Fun K "are_rising" "are_rising" s_are_rising f_are_rising d_are_rising
  b_are_rising : Binds K d_are_rising ["numbers"] []
  g_are_rising : mg "are_rising" = some (.ref f_are_rising)
  f_is_pick : Addr
  d_is_pick : FuncData
  F_is_pick : Fun K "is_pick" "is_pick" s_is_pick f_is_pick d_is_pick
  b_is_pick : Binds K d_is_pick ["thing", "many"] []
  g_is_pick : mg "is_pick" = some (.ref f_is_pick)
  f_are_tops : Addr
  d_are_tops : FuncData
  F_are_tops : Fun K "are_tops" "are_tops" s_are_tops f_are_tops d_are_tops
  b_are_tops : Binds K d_are_tops ["thing"] []
  g_are_tops : mg "are_tops" = some (.ref f_are_tops)
  f_is_cord : Addr
  d_is_cord : FuncData
  F_is_cord : Fun K "is_cord" "is_cord" s_is_cord f_is_cord d_is_cord
  b_is_cord : Binds K d_is_cord ["tops", "thing"] []
  g_is_cord : mg "is_cord" = some (.ref f_is_cord)
  f_are_cords : Addr
  d_are_cords : FuncData
  F_are_cords : Fun K "are_cords" "are_cords" s_are_cords f_are_cords d_are_cords
  b_are_cords : Binds K d_are_cords ["tops", "thing"] []
  g_are_cords : mg "are_cords" = some (.ref f_are_cords)
  f_is_house : Addr
  d_is_house : FuncData
  F_is_house : Fun K "is_house" "is_house" s_is_house f_is_house d_is_house
  b_is_house : Binds K d_is_house ["thing"] []
  g_is_house : mg "is_house" = some (.ref f_is_house)
  f_need_house : Addr
  d_need_house : FuncData
  F_need_house : Fun K "need_house" "need_house" s_need_house f_need_house d_need_house
  b_need_house : Binds K d_need_house ["house"] []
  g_need_house : mg "need_house" = some (.ref f_need_house)
  f_cut_off : Addr
  d_cut_off : FuncData
  F_cut_off : Fun K "cut_off" "cut_off" s_cut_off f_cut_off d_cut_off
  b_cut_off : Binds K d_cut_off ["house", "cords"] []
  g_cut_off : mg "cut_off" = some (.ref f_cut_off)
  f_without : Addr
  d_without : FuncData
  F_without : Fun K "without" "without" s_without f_without d_without
  b_without : Binds K d_without ["house", "cords"] []
  g_without : mg "without" = some (.ref f_without)
  f_picks_of : Addr
  d_picks_of : FuncData
  F_picks_of : Fun K "picks_of" "picks_of" s_picks_of f_picks_of d_picks_of
  b_picks_of : Binds K d_picks_of ["numbers"] []
  g_picks_of : mg "picks_of" = some (.ref f_picks_of)
  f_all_picks : Addr
  d_all_picks : FuncData
  F_all_picks : Fun K "all_picks" "all_picks" s_all_picks f_all_picks d_all_picks
  b_all_picks : Binds K d_all_picks ["many"] []
  g_all_picks : mg "all_picks" = some (.ref f_all_picks)
  f_is_candle : Addr
  d_is_candle : FuncData
  F_is_candle : Fun K "is_candle" "is_candle" s_is_candle f_is_candle d_is_candle
  b_is_candle : Binds K d_is_candle ["house", "thing"] []
  g_is_candle : mg "is_candle" = some (.ref f_is_candle)
  f_is_light : Addr
  d_is_light : FuncData
  F_is_light : Fun K "is_light" "is_light" s_is_light f_is_light d_is_light
  b_is_light : Binds K d_is_light ["house", "thing"] []
  g_is_light : mg "is_light" = some (.ref f_is_light)
  f_are_lights : Addr
  d_are_lights : FuncData
  F_are_lights : Fun K "are_lights" "are_lights" s_are_lights f_are_lights d_are_lights
  b_are_lights : Binds K d_are_lights ["house", "thing"] []
  g_are_lights : mg "are_lights" = some (.ref f_are_lights)
  f_need_lights : Addr
  d_need_lights : FuncData
  F_need_lights : Fun K "need_lights" "need_lights" s_need_lights f_need_lights d_need_lights
  b_need_lights : Binds K d_need_lights ["house", "lights"] []
  g_need_lights : mg "need_lights" = some (.ref f_need_lights)
  f_need_candle : Addr
  d_need_candle : FuncData
  F_need_candle : Fun K "need_candle" "need_candle" s_need_candle f_need_candle d_need_candle
  b_need_candle : Binds K d_need_candle ["house", "candle"] []
  g_need_candle : mg "need_candle" = some (.ref f_need_candle)
  f_embers_from : Addr
  d_embers_from : FuncData
  F_embers_from : Fun K "embers_from" "embers_from" s_embers_from f_embers_from d_embers_from
  b_embers_from : Binds K d_embers_from ["house", "candle", "beat", "height"] []
  g_embers_from : mg "embers_from" = some (.ref f_embers_from)
  f_flame_in : Addr
  d_flame_in : FuncData
  F_flame_in : Fun K "flame_in" "flame_in" s_flame_in f_flame_in d_flame_in
  b_flame_in : Binds K d_flame_in ["tale", "beat"] []
  g_flame_in : mg "flame_in" = some (.ref f_flame_in)
  f_is_sent : Addr
  d_is_sent : FuncData
  F_is_sent : Fun K "is_sent" "is_sent" s_is_sent f_is_sent d_is_sent
  b_is_sent : Binds K d_is_sent ["house", "tales", "beat", "rank"] []
  g_is_sent : mg "is_sent" = some (.ref f_is_sent)
  f_with_ember : Addr
  d_with_ember : FuncData
  F_with_ember : Fun K "with_ember" "with_ember" s_with_ember f_with_ember d_with_ember
  b_with_ember : Binds K d_with_ember ["tale", "beat", "height", "rank"] []
  g_with_ember : mg "with_ember" = some (.ref f_with_ember)
  f_burnt_tales : Addr
  d_burnt_tales : FuncData
  F_burnt_tales : Fun K "burnt_tales" "burnt_tales" s_burnt_tales f_burnt_tales d_burnt_tales
  b_burnt_tales : Binds K d_burnt_tales ["house", "lights"] []
  g_burnt_tales : mg "burnt_tales" = some (.ref f_burnt_tales)
  f_is_lit : Addr
  d_is_lit : FuncData
  F_is_lit : Fun K "is_lit" "is_lit" s_is_lit f_is_lit d_is_lit
  b_is_lit : Binds K d_is_lit ["house", "lights", "candle"] []
  g_is_lit : mg "is_lit" = some (.ref f_is_lit)
  f_fewest_cords : Addr
  d_fewest_cords : FuncData
  F_fewest_cords : Fun K "fewest_cords" "fewest_cords" s_fewest_cords f_fewest_cords d_fewest_cords
  b_fewest_cords : Binds K d_fewest_cords ["house", "lights", "candle", "lit"] []
  g_fewest_cords : mg "fewest_cords" = some (.ref f_fewest_cords)
  f_darkening : Addr
  d_darkening : FuncData
  F_darkening : Fun K "darkening" "darkening" s_darkening f_darkening d_darkening
  b_darkening : Binds K d_darkening ["house", "lights", "candle"] []
  g_darkening : mg "darkening" = some (.ref f_darkening)
  f_lighting : Addr
  d_lighting : FuncData
  F_lighting : Fun K "lighting" "lighting" s_lighting f_lighting d_lighting
  b_lighting : Binds K d_lighting ["house", "lights", "candle"] []
  g_lighting : mg "lighting" = some (.ref f_lighting)
  f__law_ways_right : Addr
  d__law_ways_right : FuncData
  F__law_ways_right : Fun K "_law_ways_right" "_law_ways_right" s__law_ways_right f__law_ways_right d__law_ways_right
  b__law_ways_right : Binds K d__law_ways_right ["_law_by"] []
  g__law_ways_right : mg "_law_ways_right" = some (.ref f__law_ways_right)
  f_lit_by_cut : Addr
  d_lit_by_cut : FuncData
  F_lit_by_cut : Fun K "lit_by_cut" "lit_by_cut" s_lit_by_cut f_lit_by_cut d_lit_by_cut
  b_lit_by_cut : Binds K d_lit_by_cut ["house", "lights"] []
  g_lit_by_cut : mg "lit_by_cut" = some (.ref f_lit_by_cut)
  f_has_light : Addr
  d_has_light : FuncData
  F_has_light : Fun K "has_light" "has_light" s_has_light f_has_light d_has_light
  b_has_light : Binds K d_has_light ["lights", "candle"] []
  g_has_light : mg "has_light" = some (.ref f_has_light)
  f_dark_by_light : Addr
  d_dark_by_light : FuncData
  F_dark_by_light : Fun K "dark_by_light" "dark_by_light" s_dark_by_light f_dark_by_light d_dark_by_light
  b_dark_by_light : Binds K d_dark_by_light ["house", "lights"] []
  g_dark_by_light : mg "dark_by_light" = some (.ref f_dark_by_light)
  f__law_set_right : Addr
  d__law_set_right : FuncData
  F__law_set_right : Fun K "_law_set_right" "_law_set_right" s__law_set_right f__law_set_right d__law_set_right
  b__law_set_right : Binds K d__law_set_right ["_law_by"] []
  g__law_set_right : mg "_law_set_right" = some (.ref f__law_set_right)
  f_law : Addr
  d_law : FuncData
  F_law : Fun K "law" "law" s_law f_law d_law
  b_law : Binds K d_law ["_law_script"] []
  g_law : mg "law" = some (.ref f_law)
  c_MOST_CANDLES : ∃ t, mg "MOST_CANDLES" = some (.int (7) t)
  c_MOST_CORDS : ∃ t, mg "MOST_CORDS" = some (.int (10) t)
  c_GREATEST : ∃ t, mg "GREATEST" = some (.int (1000000) t)
  c_BY_LIGHT : ∃ t, mg "BY_LIGHT" = some (.int (-1) t)
  z_abs : mg "abs" = none
  z_all : mg "all" = none
  z_bool : mg "bool" = none
  z_divmod : mg "divmod" = none
  z_enumerate : mg "enumerate" = none
  z_int : mg "int" = none
  z_isinstance : mg "isinstance" = none
  z_len : mg "len" = none
  z_list : mg "list" = none
  z_max : mg "max" = none
  z_min : mg "min" = none
  z_range : mg "range" = none
  z_tuple : mg "tuple" = none
  z_zip : mg "zip" = none
  l_combinations : mg "combinations" = some (.type "itertools.combinations")
  l_heapify : mg "heapify" = some (.builtin "_heapq.heapify")
  l_heappop : mg "heappop" = some (.builtin "_heapq.heappop")
  l_heappush : mg "heappush" = some (.builtin "_heapq.heappush")
  k_dark_by_light_lights_house : KwB d_dark_by_light ["house", "lights"] ["lights", "house"] [1, 0]
  k_darkening_candle_lights_house : KwB d_darkening ["house", "lights", "candle"] ["candle", "lights", "house"] [2, 1, 0]
  k_lighting_candle_lights_house : KwB d_lighting ["house", "lights", "candle"] ["candle", "lights", "house"] [2, 1, 0]
  k_lit_by_cut_lights_house : KwB d_lit_by_cut ["house", "lights"] ["lights", "house"] [1, 0]
  k_without_cords_house : KwB d_without ["house", "cords"] ["cords", "house"] [1, 0]
section
variable {P : Program} {w : World} {K : PySem.W.Frag} {mg : Str → Option Value} {base : Heap}
set_option maxHeartbeats 4000000
theorem ok__law_box (T : Txt K mg) : FnD P w K mg base 1 T.f__law_box T.d__law_box ["_law_script", "_law_k"] Pm.m__law_box := by
  refine fnd_of (k := 0) T.F__law_box sc__law_box fun cdv A out s H hr hg => ?_
  exact ⟨_, (pss_cons (ps_set (i := 2) sc__law_box.nd rfl (.inl rfl) (pe_op op_addAll (pe_op op_mulT pe_int (pv 1)) pe_int))
      (pss_cons (ps_if (pt_cmpR op_lt (pv 1) (pe_callB Dn.call_lenD (by rfl) T.z_len B_len (pa_cons (pv 0) pa_nil)) (nomark _)) (pss_one (ps_set (i := 2) sc__law_box.nd rfl (.inl rfl) (pe_ix ix_seq (pv 0) (pv 1) (fun _ _ => rfl)))) pss_nil)
      (pss_cons (ps_if (pt_cmpR (op_eqP hr.units) (pe_op op_mod (pv 2) pe_int) pe_int (nomark _)) (pss_one (ps_ret (pe_lst (pa_cons (pe_op op_fdivW (pv 2) pe_int) (pa_cons (pe_op op_mod (pe_callB call_abs (by rfl) T.z_abs B_abs (pa_cons (pv 2) pa_nil)) pe_int) pa_nil))))) pss_nil)
      (pss_cons (ps_set (i := 3) sc__law_box.nd rfl (.inl rfl) pe_int)
      (pss_cons (ps_for PassesOwn.never rfl (pi_range1 (by rfl) T.z_range (pa_cons pe_int pa_nil)) (pg_name (i := 4) sc__law_box.nd rfl (.inl rfl)) (pss_cons (ps_set (i := 5) sc__law_box.nd rfl (.inl rfl) (pe_op op_mod (pe_op op_addAll (pe_op op_addAll (pe_op op_mulT (pe_op op_mod (pv 2) pe_int) pe_int) (pe_op op_mulT pe_int (pv 4))) pe_int) pe_int))
      (pss_cons (ps_set (i := 5) sc__law_box.nd rfl (.inl rfl) (pe_op op_mod (pe_op op_mulT (pv 5) (pv 5)) pe_int))
      (pss_one (ps_set (i := 3) sc__law_box.nd rfl (.inl rfl) (pe_op op_addAll (pe_op op_mulT (pv 3) pe_int) (pe_op op_mod (pe_op op_mulT (pv 5) (pe_op op_addAll (pv 5) pe_int)) pe_int)))))))
      (pss_one (ps_ret (pe_lst (pa_cons (pv 3) (pa_cons (pe_op op_mod (pe_callB call_abs (by rfl) T.z_abs B_abs (pa_cons (pv 2) pa_nil)) pe_int) pa_nil)))))))))),
    (ss_seq (ss_asg (se_tidy (se_op rk_add (se_op rk_mulT (se_c fun _ => .int _) se_var) (se_c fun _ => .int _))) sg_name)
      (ss_seq (ss_if (st_tidy (st_test (se_op rk_lt se_var (se_cb rl_look (sa_cons se_var sa_nil))))) (ss_asg (se_tidy (se_op rk_ix se_var se_var)) sg_name) ss_next)
      (ss_seq (ss_if (st_tidy (st_test (se_op rk_eqP (se_op rk_mod se_var (se_c fun _ => .int _)) (se_c fun _ => .int _)))) (ss_ret (se_lst (sa_cons (se_op rk_div se_var (se_c fun _ => .int _)) (sa_cons (se_op rk_mod (se_cb rl_abs (sa_cons se_var sa_nil)) (se_c fun _ => .int _)) sa_nil)))) ss_next)
      (ss_seq (ss_asg (se_tidy (se_c fun _ => .int _)) sg_name)
      (ss_seq (ss_for (si_rng1 (sa_cons (se_c fun _ => .int _) sa_nil)) (sg_name (i := 4)) (ss_seq (ss_asg (se_tidy (se_op rk_mod (se_op rk_add (se_op rk_add (se_op rk_mulT (se_op rk_mod se_var (se_c fun _ => .int _)) (se_c fun _ => .int _)) (se_op rk_mulT (se_c fun _ => .int _) se_var)) (se_c fun _ => .int _)) (se_c fun _ => .int _))) sg_name)
      (ss_seq (ss_asg (se_tidy (se_op rk_mod (se_op rk_mulT se_var se_var) (se_c fun _ => .int _))) sg_name)
      (ss_asg (se_tidy (se_op rk_add (se_op rk_mulT se_var (se_c fun _ => .int _)) (se_op rk_mod (se_op rk_mulT se_var (se_op rk_add se_var (se_c fun _ => .int _))) (se_c fun _ => .int _)))) sg_name))))
      (ss_ret (se_lst (sa_cons se_var (sa_cons (se_op rk_mod (se_cb rl_abs (sa_cons se_var sa_nil)) (se_c fun _ => .int _)) sa_nil)))))))))⟩
theorem ok__law_more (T : Txt K mg) : FnD P w K mg base 1 T.f__law_more T.d__law_more ["_law_box_here"] Pm.m__law_more := by
  refine fnd_of (k := 0) T.F__law_more sc__law_more fun cdv A out s H hr hg => ?_
  exact ⟨_, (pss_cons (ps_set (i := 1) sc__law_more.nd rfl (.inl rfl) pe_int)
      (pss_cons (ps_for PassesOwn.never rfl (pi_range1 (by rfl) T.z_range (pa_cons pe_int pa_nil)) (pg_name (i := 2) sc__law_more.nd rfl (.inl rfl)) (pss_cons (ps_asg (pe_op op_mod (pe_op op_addAll (pe_op op_mulT (pe_ix ix_seq (pv 0) pe_int (fun _ _ => rfl)) pe_int) pe_int) pe_int) (pg_sub (pv 0) pe_int set_list))
      (pss_one (ps_set (i := 1) sc__law_more.nd rfl (.inl rfl) (pe_op op_addAll (pe_op op_mulT (pv 1) pe_int) (pe_op op_mod (pe_op op_fdivW (pe_ix ix_seq (pv 0) pe_int (fun _ _ => rfl)) pe_int) pe_int))))))
      (pss_one (ps_ret (pv 1))))),
    (ss_seq (ss_asg (se_tidy (se_c fun _ => .int _)) sg_name)
      (ss_seq (ss_for (si_rng1 (sa_cons (se_c fun _ => .int _) sa_nil)) (sg_name (i := 2)) (ss_seq (ss_asg (se_tidy (se_op rk_mod (se_op rk_add (se_op rk_mulT (se_op rk_ix se_var (se_c fun _ => .int _)) (se_c fun _ => .int _)) (se_c fun _ => .int _)) (se_c fun _ => .int _))) (sg_sub se_var (se_c fun _ => .int _)))
      (ss_asg (se_tidy (se_op rk_add (se_op rk_mulT se_var (se_c fun _ => .int _)) (se_op rk_mod (se_op rk_div (se_op rk_ix se_var (se_c fun _ => .int _)) (se_c fun _ => .int _)) (se_c fun _ => .int _)))) sg_name)))
      (ss_ret se_var)))⟩
theorem ok__law_take (T : Txt K mg) : FnD P w K mg base 2 T.f__law_take T.d__law_take ["_law_box_here", "_law_count"] Pm.m__law_take := by
  refine fnd_of (k := 1) T.F__law_take sc__law_take fun cdv A out s H hr hg => ?_
  exact ⟨_, (pss_cons (ps_if (pt_chain op_le op_lt pe_int (pe_ix ix_seq (pv 0) pe_int (fun _ _ => rfl)) (pv 1)) (pss_one (ps_asg (pe_op op_addAll (pe_ix ix_seq (pv 0) pe_int (fun _ _ => rfl)) (pe_op op_mulT (pv 1) (pe_callD (ok__law_more T) (hr.mono (by decide)) hg (by rfl) T.g__law_more T.F__law_more.kp T.b__law_more (pa_cons (pv 0) pa_nil)))) (pg_sub (pv 0) pe_int set_list))) pss_nil)
      (pss_cons (ps_asg (pe_callB call_divmodN (by rfl) T.z_divmod B_divmod (pa_cons (pe_ix ix_seq (pv 0) pe_int (fun _ _ => rfl)) (pa_cons (pv 1) pa_nil))) (pg_tup rfl (pgs_cons (pg_name (i := 2) sc__law_take.nd rfl (.inl rfl)) (pgs_cons (pg_name (i := 3) sc__law_take.nd rfl (.inl rfl)) pgs_nil))))
      (pss_cons (ps_asg (pv 2) (pg_sub (pv 0) pe_int set_list))
      (pss_one (ps_ret (pv 3)))))),
    (ss_seq (ss_if (st_tidy (st_test (se_chain rk_le rk_lt (se_c fun _ => .int _) (se_op rk_ix se_var (se_c fun _ => .int _)) se_var))) (ss_asg (se_tidy (se_op rk_add (se_op rk_ix se_var (se_c fun _ => .int _)) (se_op rk_mulT se_var (se_callD (sa_cons se_var sa_nil))))) (sg_sub se_var (se_c fun _ => .int _))) ss_next)
      (ss_seq (ss_asg (se_tidy (se_cb rl_divmod (sa_cons (se_op rk_ix se_var (se_c fun _ => .int _)) (sa_cons se_var sa_nil)))) (sg_tup (sgs_cons (sg_name (i := 2)) (sgs_cons (sg_name (i := 3)) sgs_nil))))
      (ss_seq (ss_asg (se_tidy se_var) (sg_sub se_var (se_c fun _ => .int _)))
      (ss_ret se_var))))⟩
theorem ok_is_whole (T : Txt K mg) : FnD P w K mg base 1 T.f_is_whole T.d_is_whole ["thing"] Pg.m_is_whole := by
  refine fnd_of (k := 0) T.F_is_whole sc_is_whole fun cdv A out s H hr hg => ?_
  exact ⟨_, (pss_one (ps_ret (pe_and (pe_callB Dn.call_isiInt (by rfl) T.z_isinstance B_isinstance (pa_cons (pv 0) (pa_cons (pe_bltn (v := .ty "int") (by rfl) T.z_int B_int rfl) pa_nil))) (pe_one (pe_not (pe_callB Dn.call_isiBool (by rfl) T.z_isinstance B_isinstance (pa_cons (pv 0) (pa_cons (pe_bltn (v := .ty "bool") (by rfl) T.z_bool B_bool rfl) pa_nil)))))))),
    (ss_ret (se_andV (se_isi se_var) (se_notV (se_isi se_var))))⟩
theorem ok_is_from_to (T : Txt K mg) : FnD P w K mg base 2 T.f_is_from_to T.d_is_from_to ["thing", "low", "high"] Pg.m_is_from_to := by
  refine fnd_of (k := 1) T.F_is_from_to sc_is_from_to fun cdv A out s H hr hg => ?_
  exact ⟨_, (pss_one (ps_ret (pe_and (pe_callD (ok_is_whole T) (hr.mono (by decide)) hg (by rfl) T.g_is_whole T.F_is_whole.kp T.b_is_whole (pa_cons (pv 0) pa_nil)) (pe_one (pe_chain op_le op_le (pv 1) (pv 0) (pv 2)))))),
    (ss_ret (se_andV (se_callD (sa_cons se_var sa_nil)) (se_chain rk_le rk_le se_var se_var se_var)))⟩
theorem ok_are_rising (T : Txt K mg) : FnD P w K mg base 1 T.f_are_rising T.d_are_rising ["numbers"] Pg.m_are_rising := by
  refine fnd_of (k := 0) T.F_are_rising sc_are_rising fun cdv A out s H hr hg => ?_
  exact ⟨_, (pss_one (ps_ret (pe_callB (Dn.call_allD rfl) (by rfl) T.z_all B_all (pa_cons (pe_lc (own := [("low", 1), ("high", 2)]) rfl sc_are_rising.nd (pi_zipK (by rfl) T.z_zip (pa_cons (pv 0) (pa_cons (pe_slice sl_all (pv 0) (po_some pe_int) po_none) pa_nil))) (blkOk_by (N := N_are_rising) (sc := (defScope s_are_rising)) (by decide +kernel)) (fun _ _ _ _ _ => (pg_tup rfl (pgs_cons (pg_name (i := 1) sc_are_rising.nd rfl (.inl rfl)) (pgs_cons (pg_name (i := 2) sc_are_rising.nd rfl (.inl rfl)) pgs_nil)))) (fun _ _ _ _ _ => pts_nil) (fun _ _ _ _ _ => (pe_cmpR op_lt (pv 1) (pv 2) (nomark _)))) pa_nil)))),
    (ss_ret (se_cb rl_look (sa_cons (se_lc (ws := [1, 2]) (si_zip (sa_cons se_var (sa_cons (se_cut se_var (so_part (se_c fun _ => .int _)) so_no) sa_nil))) (sw_tup (sws_cons (sw_name (i := 1) (by decide)) (sws_cons (sw_name (i := 2) (by decide)) sws_nil))) st_yes (se_op rk_lt se_var se_var)) sa_nil)))⟩
theorem ok_is_pick (T : Txt K mg) : FnD P w K mg base 3 T.f_is_pick T.d_is_pick ["thing", "many"] Pg.m_is_pick := by
  refine fnd_of (k := 2) T.F_is_pick sc_is_pick fun cdv A out s H hr hg => ?_
  exact ⟨_, (pss_cons (ps_if (pt_not (pt_val (pe_callB Dn.call_isiTuple (by rfl) T.z_isinstance B_isinstance (pa_cons (pv 0) (pa_cons (pe_bltn (v := .ty "tuple") (by rfl) T.z_tuple B_tuple rfl) pa_nil))))) (pss_one (ps_ret pe_bl)) pss_nil)
      (pss_one (ps_ret (pe_and (pe_callB (Dn.call_allD rfl) (by rfl) T.z_all B_all (pa_cons (pe_lc (own := [("number", 2)]) rfl sc_is_pick.nd (pi_any (pv 0)) (blkOk_by (N := N_is_pick) (sc := (defScope s_is_pick)) (by decide +kernel)) (fun _ _ _ _ _ => (pg_name (i := 2) sc_is_pick.nd rfl (.inl rfl))) (fun _ _ _ _ _ => pts_nil) (fun _ _ _ _ _ => (pe_callD (ok_is_from_to T) (hr.mono (by decide)) hg (by rfl) T.g_is_from_to T.F_is_from_to.kp T.b_is_from_to (pa_cons (pv 2) (pa_cons pe_int (pa_cons (pe_op op_sub (pv 1) pe_int) pa_nil)))))) pa_nil)) (pe_one (pe_callD (ok_are_rising T) (hr.mono (by decide)) hg (by rfl) T.g_are_rising T.F_are_rising.kp T.b_are_rising (pa_cons (pv 0) pa_nil))))))),
    (ss_seq (ss_if (st_tidy (st_not (st_tB (se_isi se_var)))) (ss_ret (se_c fun _ => .bl _)) ss_next)
      (ss_ret (se_andV (se_cb rl_look (sa_cons (se_lc (ws := [2]) (si_seq se_var) (sw_name (i := 2) (by decide)) st_yes (se_callD (sa_cons se_var (sa_cons (se_c fun _ => .int _) (sa_cons (se_op rk_sub se_var (se_c fun _ => .int _)) sa_nil))))) sa_nil)) (se_callD (sa_cons se_var sa_nil)))))⟩
theorem ok_are_tops (T : Txt K mg) : FnD P w K mg base 3 T.f_are_tops T.d_are_tops ["thing"] Pg.m_are_tops := by
  refine fnd_of (k := 2) T.F_are_tops sc_are_tops fun cdv A out s H hr hg => ?_
  exact ⟨_, (pss_cons (ps_if ((pw_or (pt_not (pt_val (pe_callB Dn.call_isiTuple (by rfl) T.z_isinstance B_isinstance (pa_cons (pv 0) (pa_cons (pe_bltn (v := .ty "tuple") (by rfl) T.z_tuple B_tuple rfl) pa_nil))))) (pw_or1 (pt_not (pt_chain op_le op_le pe_int (pe_callB Dn.call_lenD (by rfl) T.z_len B_len (pa_cons (pv 0) pa_nil)) (pe_glob (v := .int (7)) (by rfl) T.c_MOST_CANDLES.choose_spec ⟨_, rfl⟩)))))).pt (pss_one (ps_ret pe_bl)) pss_nil)
      (pss_one (ps_ret (pe_callB (Dn.call_allD rfl) (by rfl) T.z_all B_all (pa_cons (pe_lc (own := [("top", 1)]) rfl sc_are_tops.nd (pi_any (pv 0)) (blkOk_by (N := N_are_tops) (sc := (defScope s_are_tops)) (by decide +kernel)) (fun _ _ _ _ _ => (pg_name (i := 1) sc_are_tops.nd rfl (.inl rfl))) (fun _ _ _ _ _ => pts_nil) (fun _ _ _ _ _ => (pe_callD (ok_is_from_to T) (hr.mono (by decide)) hg (by rfl) T.g_is_from_to T.F_is_from_to.kp T.b_is_from_to (pa_cons (pv 1) (pa_cons pe_int (pa_cons (pe_glob (v := .int (1000000)) (by rfl) T.c_GREATEST.choose_spec ⟨_, rfl⟩) pa_nil)))))) pa_nil))))),
    (ss_seq (ss_if (st_tidy (st_or (st_not (st_tB (se_isi se_var))) (st_not (st_test (se_chain rk_le rk_le (se_c fun _ => .int _) (se_cb rl_look (sa_cons se_var sa_nil)) (se_c fun _ => .int _)))))) (ss_ret (se_c fun _ => .bl _)) ss_next)
      (ss_ret (se_cb rl_look (sa_cons (se_lc (ws := [1]) (si_seq se_var) (sw_name (i := 1) (by decide)) st_yes (se_callD (sa_cons se_var (sa_cons (se_c fun _ => .int _) (sa_cons (se_c fun _ => .int _) sa_nil))))) sa_nil))))⟩
theorem ok_is_cord (T : Txt K mg) : FnD P w K mg base 3 T.f_is_cord T.d_is_cord ["tops", "thing"] Pg.m_is_cord := by
  refine fnd_of (k := 2) T.F_is_cord sc_is_cord fun cdv A out s H hr hg => ?_
  exact ⟨_, (pss_cons (ps_if ((pw_or (pt_not (pt_val (pe_callB Dn.call_isiTuple (by rfl) T.z_isinstance B_isinstance (pa_cons (pv 1) (pa_cons (pe_bltn (v := .ty "tuple") (by rfl) T.z_tuple B_tuple rfl) pa_nil))))) (pw_or1 (pt_cmpR (op_neP hr.units) (pe_callB Dn.call_lenD (by rfl) T.z_len B_len (pa_cons (pv 1) pa_nil)) pe_int (nomark _))))).pt (pss_one (ps_ret pe_bl)) pss_nil)
      (pss_cons (ps_asg (pv 1) (pg_tup rfl (pgs_cons (pg_name (i := 2) sc_is_cord.nd rfl (.inl rfl)) (pgs_cons (pg_name (i := 3) sc_is_cord.nd rfl (.inl rfl)) (pgs_cons (pg_name (i := 4) sc_is_cord.nd rfl (.inl rfl)) (pgs_cons (pg_name (i := 5) sc_is_cord.nd rfl (.inl rfl)) (pgs_cons (pg_name (i := 6) sc_is_cord.nd rfl (.inl rfl)) pgs_nil)))))))
      (pss_one (ps_ret (pe_and (pe_callD (ok_is_from_to T) (hr.mono (by decide)) hg (by rfl) T.g_is_from_to T.F_is_from_to.kp T.b_is_from_to (pa_cons (pv 2) (pa_cons pe_int (pa_cons (pe_op op_sub (pe_callB Dn.call_lenD (by rfl) T.z_len B_len (pa_cons (pv 0) pa_nil)) pe_int) pa_nil)))) (pe_and (pe_callD (ok_is_from_to T) (hr.mono (by decide)) hg (by rfl) T.g_is_from_to T.F_is_from_to.kp T.b_is_from_to (pa_cons (pv 3) (pa_cons pe_int (pa_cons (pe_op op_sub (pe_ix ix_seq (pv 0) (pv 2) (fun _ _ => rfl)) pe_int) pa_nil)))) (pe_and (pe_callD (ok_is_from_to T) (hr.mono (by decide)) hg (by rfl) T.g_is_from_to T.F_is_from_to.kp T.b_is_from_to (pa_cons (pv 4) (pa_cons pe_int (pa_cons (pe_op op_sub (pe_callB Dn.call_lenD (by rfl) T.z_len B_len (pa_cons (pv 0) pa_nil)) pe_int) pa_nil)))) (pe_and (pe_callD (ok_is_from_to T) (hr.mono (by decide)) hg (by rfl) T.g_is_from_to T.F_is_from_to.kp T.b_is_from_to (pa_cons (pv 5) (pa_cons pe_int (pa_cons (pe_ix ix_seq (pv 0) (pv 4) (fun _ _ => rfl)) pa_nil)))) (pe_one (pe_callD (ok_is_from_to T) (hr.mono (by decide)) hg (by rfl) T.g_is_from_to T.F_is_from_to.kp T.b_is_from_to (pa_cons (pv 6) (pa_cons pe_int (pa_cons (pe_glob (v := .int (1000000)) (by rfl) T.c_GREATEST.choose_spec ⟨_, rfl⟩) pa_nil))))))))))))),
    (ss_seq (ss_if (st_tidy (st_or (st_not (st_tB (se_isi se_var))) (st_test (se_op rk_neP (se_cb rl_look (sa_cons se_var sa_nil)) (se_c fun _ => .int _))))) (ss_ret (se_c fun _ => .bl _)) ss_next)
      (ss_seq (ss_asg (se_tidy se_var) (sg_tup (sgs_cons (sg_name (i := 2)) (sgs_cons (sg_name (i := 3)) (sgs_cons (sg_name (i := 4)) (sgs_cons (sg_name (i := 5)) (sgs_cons (sg_name (i := 6)) sgs_nil)))))))
      (ss_ret (se_andV (se_callD (sa_cons se_var (sa_cons (se_c fun _ => .int _) (sa_cons (se_op rk_sub (se_cb rl_look (sa_cons se_var sa_nil)) (se_c fun _ => .int _)) sa_nil)))) (se_andV (se_callD (sa_cons se_var (sa_cons (se_c fun _ => .int _) (sa_cons (se_op rk_sub (se_op rk_ix se_var se_var) (se_c fun _ => .int _)) sa_nil)))) (se_andV (se_callD (sa_cons se_var (sa_cons (se_c fun _ => .int _) (sa_cons (se_op rk_sub (se_cb rl_look (sa_cons se_var sa_nil)) (se_c fun _ => .int _)) sa_nil)))) (se_andV (se_callD (sa_cons se_var (sa_cons (se_c fun _ => .int _) (sa_cons (se_op rk_ix se_var se_var) sa_nil)))) (se_callD (sa_cons se_var (sa_cons (se_c fun _ => .int _) (sa_cons (se_c fun _ => .int _) sa_nil)))))))))))⟩
theorem ok_are_cords (T : Txt K mg) : FnD P w K mg base 4 T.f_are_cords T.d_are_cords ["tops", "thing"] Pg.m_are_cords := by
  refine fnd_of (k := 3) T.F_are_cords sc_are_cords fun cdv A out s H hr hg => ?_
  exact ⟨_, (pss_cons (ps_if ((pw_or (pt_not (pt_val (pe_callB Dn.call_isiTuple (by rfl) T.z_isinstance B_isinstance (pa_cons (pv 1) (pa_cons (pe_bltn (v := .ty "tuple") (by rfl) T.z_tuple B_tuple rfl) pa_nil))))) (pw_or1 (pt_cmpR op_gt (pe_callB Dn.call_lenD (by rfl) T.z_len B_len (pa_cons (pv 1) pa_nil)) (pe_glob (v := .int (10)) (by rfl) T.c_MOST_CORDS.choose_spec ⟨_, rfl⟩) (nomark _))))).pt (pss_one (ps_ret pe_bl)) pss_nil)
      (pss_one (ps_ret (pe_callB (Dn.call_allD rfl) (by rfl) T.z_all B_all (pa_cons (pe_lc (own := [("cord", 2)]) rfl sc_are_cords.nd (pi_any (pv 1)) (blkOk_by (N := N_are_cords) (sc := (defScope s_are_cords)) (by decide +kernel)) (fun _ _ _ _ _ => (pg_name (i := 2) sc_are_cords.nd rfl (.inl rfl))) (fun _ _ _ _ _ => pts_nil) (fun _ _ _ _ _ => (pe_callD (ok_is_cord T) (hr.mono (by decide)) hg (by rfl) T.g_is_cord T.F_is_cord.kp T.b_is_cord (pa_cons (pv 0) (pa_cons (pv 2) pa_nil))))) pa_nil))))),
    (ss_seq (ss_if (st_tidy (st_or (st_not (st_tB (se_isi se_var))) (st_test (se_op rk_gt (se_cb rl_look (sa_cons se_var sa_nil)) (se_c fun _ => .int _))))) (ss_ret (se_c fun _ => .bl _)) ss_next)
      (ss_ret (se_cb rl_look (sa_cons (se_lc (ws := [2]) (si_seq se_var) (sw_name (i := 2) (by decide)) st_yes (se_callD (sa_cons se_var (sa_cons se_var sa_nil)))) sa_nil))))⟩
theorem ok_is_house (T : Txt K mg) : FnD P w K mg base 5 T.f_is_house T.d_is_house ["thing"] Pg.m_is_house := by
  refine fnd_of (k := 4) T.F_is_house sc_is_house fun cdv A out s H hr hg => ?_
  exact ⟨_, (pss_cons (ps_if ((pw_or (pt_not (pt_val (pe_callB Dn.call_isiTuple (by rfl) T.z_isinstance B_isinstance (pa_cons (pv 0) (pa_cons (pe_bltn (v := .ty "tuple") (by rfl) T.z_tuple B_tuple rfl) pa_nil))))) (pw_or1 (pt_cmpR (op_neP hr.units) (pe_callB Dn.call_lenD (by rfl) T.z_len B_len (pa_cons (pv 0) pa_nil)) pe_int (nomark _))))).pt (pss_one (ps_ret pe_bl)) pss_nil)
      (pss_cons (ps_asg (pv 0) (pg_tup rfl (pgs_cons (pg_name (i := 1) sc_is_house.nd rfl (.inl rfl)) (pgs_cons (pg_name (i := 2) sc_is_house.nd rfl (.inl rfl)) pgs_nil))))
      (pss_one (ps_ret (pe_and (pe_callD (ok_are_tops T) (hr.mono (by decide)) hg (by rfl) T.g_are_tops T.F_are_tops.kp T.b_are_tops (pa_cons (pv 1) pa_nil)) (pe_one (pe_callD (ok_are_cords T) (hr.mono (by decide)) hg (by rfl) T.g_are_cords T.F_are_cords.kp T.b_are_cords (pa_cons (pv 1) (pa_cons (pv 2) pa_nil))))))))),
    (ss_seq (ss_if (st_tidy (st_or (st_not (st_tB (se_isi se_var))) (st_test (se_op rk_neP (se_cb rl_look (sa_cons se_var sa_nil)) (se_c fun _ => .int _))))) (ss_ret (se_c fun _ => .bl _)) ss_next)
      (ss_seq (ss_asg (se_tidy se_var) (sg_tup (sgs_cons (sg_name (i := 1)) (sgs_cons (sg_name (i := 2)) sgs_nil))))
      (ss_ret (se_andV (se_callD (sa_cons se_var sa_nil)) (se_callD (sa_cons se_var (sa_cons se_var sa_nil)))))))⟩
theorem ok_need_house (T : Txt K mg) : FnD P w K mg base 6 T.f_need_house T.d_need_house ["house"] Pg.m_need_house := by
  refine fnd_of (k := 5) T.F_need_house sc_need_house fun cdv A out s H hr hg => ?_
  exact ⟨_, (pss_one (ps_if (pt_not (pt_val (pe_callD (ok_is_house T) (hr.mono (by decide)) hg (by rfl) T.g_is_house T.F_is_house.kp T.b_is_house (pa_cons (pv 0) pa_nil)))) (pss_one ps_never) pss_nil)),
    (ss_if (st_tidy (st_not (st_tB (se_callD (sa_cons se_var sa_nil))))) ss_never ss_next)⟩
theorem ok_cut_off (T : Txt K mg) : FnD P w K mg base 1 T.f_cut_off T.d_cut_off ["house", "cords"] Pg.m_cut_off := by
  refine fnd_of (k := 0) T.F_cut_off sc_cut_off fun cdv A out s H hr hg => ?_
  exact ⟨_, (pss_cons (ps_asg (pv 0) (pg_tup rfl (pgs_cons (pg_name (i := 2) sc_cut_off.nd rfl (.inl rfl)) (pgs_cons (pg_name (i := 3) sc_cut_off.nd rfl (.inl rfl)) pgs_nil))))
      (pss_one (ps_ret (pe_tupN (pa_cons (pv 2) (pa_cons (pe_callTy call_tupN (by rfl) T.z_tuple B_tuple (pa_cons (pe_lc (own := [("number", 4), ("cord", 5)]) rfl sc_cut_off.nd (pi_enumA (by rfl) T.z_enumerate (pa_cons (pv 3) pa_nil)) (blkOk_by (N := N_cut_off) (sc := (defScope s_cut_off)) (by decide +kernel)) (fun _ _ _ _ _ => (pg_tup rfl (pgs_cons (pg_name (i := 4) sc_cut_off.nd rfl (.inl rfl)) (pgs_cons (pg_name (i := 5) sc_cut_off.nd rfl (.inl rfl)) pgs_nil)))) (fun _ _ _ _ _ => (pts_one (pt_cmpR op_notIn_seq (pv 4) (pv 1) (by with_unfolding_all rfl)))) (fun _ _ _ _ _ => (pv 5))) pa_nil)) pa_nil)))))),
    (ss_seq (ss_asg (se_fz se_var) (sg_tup (sgs_cons (sg_name (i := 2)) (sgs_cons (sg_name (i := 3)) sgs_nil))))
      (ss_ret (se_tup (sa_cons se_var (sa_cons (se_cb rl_tuple (sa_cons (se_lc (ws := [4, 5]) (si_enum (sa_cons se_var sa_nil)) (sw_tup (sws_cons (sw_name (i := 4) (by decide)) (sws_cons (sw_name (i := 5) (by decide)) sws_nil))) (st_test (se_op rk_notIn se_var se_var)) se_var) sa_nil)) sa_nil)))))⟩
theorem ok_without (T : Txt K mg) : FnD P w K mg base 7 T.f_without T.d_without ["house", "cords"] Pg.m_without := by
  refine fnd_of (k := 6) T.F_without sc_without fun cdv A out s H hr hg => ?_
  exact ⟨_, (pss_cons (ps_expr (pe_callD (ok_need_house T) (hr.mono (by decide)) hg (by rfl) T.g_need_house T.F_need_house.kp T.b_need_house (pa_cons (pv 0) pa_nil)))
      (pss_cons (ps_if (pt_not (pt_val (pe_callD (ok_is_pick T) (hr.mono (by decide)) hg (by rfl) T.g_is_pick T.F_is_pick.kp T.b_is_pick (pa_cons (pv 1) (pa_cons (pe_callB Dn.call_lenD (by rfl) T.z_len B_len (pa_cons (pe_ix ix_seq (pv 0) pe_int (fun _ _ => rfl)) pa_nil)) pa_nil))))) (pss_one ps_never) pss_nil)
      (pss_one (ps_ret (pe_callD (ok_cut_off T) (hr.mono (by decide)) hg (by rfl) T.g_cut_off T.F_cut_off.kp T.b_cut_off (pa_cons (pv 0) (pa_cons (pv 1) pa_nil))))))),
    (ss_seq (ss_drop (se_fz (se_callD (sa_cons se_var sa_nil))))
      (ss_seq (ss_if (st_tidy (st_not (st_tB (se_callD (sa_cons se_var (sa_cons (se_cb rl_look (sa_cons (se_op rk_ix se_var (se_c fun _ => .int _)) sa_nil)) sa_nil)))))) ss_never ss_next)
      (ss_ret (se_callD (sa_cons se_var (sa_cons se_var sa_nil))))))⟩
theorem ok_picks_of (T : Txt K mg) : FnD P w K mg base 1 T.f_picks_of T.d_picks_of ["numbers"] Pg.m_picks_of := by
  refine fnd_of (k := 0) T.F_picks_of sc_picks_of fun cdv A out s H hr hg => ?_
  exact ⟨_, (pss_one (ps_ret (pe_lc2 (own := [("size", 1), ("pick", 2)]) (vs1 := [2]) rfl sc_picks_of.nd (pi_range1 (by rfl) T.z_range (pa_cons (pe_op op_addV (pe_callB Dn.call_lenD (by rfl) T.z_len B_len (pa_cons (pv 0) pa_nil)) pe_int) pa_nil)) (blkOk_by (N := N_picks_of) (sc := (defScope s_picks_of)) (by decide +kernel)) (by decide) (fun _ _ _ _ _ => (pg_name (i := 1) sc_picks_of.nd rfl (.inl rfl))) (fun _ _ _ _ _ => pts_nil) (fun _ _ _ _ _ => (pi_comb (by rfl) T.l_combinations (pa_cons (pv 0) (pa_cons (pv 1) pa_nil)))) (fun _ _ _ _ _ => (pg_name (i := 2) sc_picks_of.nd rfl (.inl rfl))) (fun _ _ _ _ _ => pts_nil) (fun _ _ _ _ _ => (pv 2))))),
    (ss_ret (se_fz (se_lc2 (ws := [1, 2]) (ws1 := [2]) (si_rng1 (sa_cons (se_fz (se_op rk_addV (se_cb rl_look (sa_cons se_var sa_nil)) (se_c fun _ => .int _))) sa_nil)) (sw_name (i := 1) (by decide)) st_yes (si_comb (sa_cons se_var (sa_cons se_var sa_nil))) (sw_name (i := 2) (by decide)) st_yes se_var)))⟩
theorem ok_all_picks (T : Txt K mg) : FnD P w K mg base 2 T.f_all_picks T.d_all_picks ["many"] Pg.m_all_picks := by
  refine fnd_of (k := 1) T.F_all_picks sc_all_picks fun cdv A out s H hr hg => ?_
  exact ⟨_, (pss_one (ps_ret (pe_callD (ok_picks_of T) (hr.mono (by decide)) hg (by rfl) T.g_picks_of T.F_picks_of.kp T.b_picks_of (pa_cons (pe_listRg rfl (by rfl) T.z_list (prg_1 (by rfl) T.z_range (pv 0))) pa_nil)))),
    (ss_ret (se_callD (sa_cons (se_fz (se_lstRg se_var)) sa_nil)))⟩
theorem ok_is_candle (T : Txt K mg) : FnD P w K mg base 3 T.f_is_candle T.d_is_candle ["house", "thing"] Pg.m_is_candle := by
  refine fnd_of (k := 2) T.F_is_candle sc_is_candle fun cdv A out s H hr hg => ?_
  exact ⟨_, (pss_one (ps_ret (pe_callD (ok_is_from_to T) (hr.mono (by decide)) hg (by rfl) T.g_is_from_to T.F_is_from_to.kp T.b_is_from_to (pa_cons (pv 1) (pa_cons pe_int (pa_cons (pe_op op_sub (pe_callB Dn.call_lenD (by rfl) T.z_len B_len (pa_cons (pe_ix ix_seq (pv 0) pe_int (fun _ _ => rfl)) pa_nil)) pe_int) pa_nil)))))),
    (ss_ret (se_callD (sa_cons se_var (sa_cons (se_c fun _ => .int _) (sa_cons (se_op rk_sub (se_cb rl_look (sa_cons (se_op rk_ix se_var (se_c fun _ => .int _)) sa_nil)) (se_c fun _ => .int _)) sa_nil)))))⟩
theorem ok_is_light (T : Txt K mg) : FnD P w K mg base 4 T.f_is_light T.d_is_light ["house", "thing"] Pg.m_is_light := by
  refine fnd_of (k := 3) T.F_is_light sc_is_light fun cdv A out s H hr hg => ?_
  exact ⟨_, (pss_cons (ps_if ((pw_or (pt_not (pt_val (pe_callB Dn.call_isiTuple (by rfl) T.z_isinstance B_isinstance (pa_cons (pv 1) (pa_cons (pe_bltn (v := .ty "tuple") (by rfl) T.z_tuple B_tuple rfl) pa_nil))))) (pw_or1 (pt_cmpR (op_neP hr.units) (pe_callB Dn.call_lenD (by rfl) T.z_len B_len (pa_cons (pv 1) pa_nil)) pe_int (nomark _))))).pt (pss_one (ps_ret pe_bl)) pss_nil)
      (pss_cons (ps_asg (pv 1) (pg_tup rfl (pgs_cons (pg_name (i := 2) sc_is_light.nd rfl (.inl rfl)) (pgs_cons (pg_name (i := 3) sc_is_light.nd rfl (.inl rfl)) pgs_nil))))
      (pss_one (ps_ret (pe_and (pe_callD (ok_is_candle T) (hr.mono (by decide)) hg (by rfl) T.g_is_candle T.F_is_candle.kp T.b_is_candle (pa_cons (pv 0) (pa_cons (pv 2) pa_nil))) (pe_one (pe_callD (ok_is_from_to T) (hr.mono (by decide)) hg (by rfl) T.g_is_from_to T.F_is_from_to.kp T.b_is_from_to (pa_cons (pv 3) (pa_cons pe_int (pa_cons (pe_glob (v := .int (1000000)) (by rfl) T.c_GREATEST.choose_spec ⟨_, rfl⟩) pa_nil)))))))))),
    (ss_seq (ss_if (st_tidy (st_or (st_not (st_tB (se_isi se_var))) (st_test (se_op rk_neP (se_cb rl_look (sa_cons se_var sa_nil)) (se_c fun _ => .int _))))) (ss_ret (se_c fun _ => .bl _)) ss_next)
      (ss_seq (ss_asg (se_tidy se_var) (sg_tup (sgs_cons (sg_name (i := 2)) (sgs_cons (sg_name (i := 3)) sgs_nil))))
      (ss_ret (se_andV (se_callD (sa_cons se_var (sa_cons se_var sa_nil))) (se_callD (sa_cons se_var (sa_cons (se_c fun _ => .int _) (sa_cons (se_c fun _ => .int _) sa_nil))))))))⟩
theorem ok_are_lights (T : Txt K mg) : FnD P w K mg base 7 T.f_are_lights T.d_are_lights ["house", "thing"] Pg.m_are_lights := by
  refine fnd_of (k := 6) T.F_are_lights sc_are_lights fun cdv A out s H hr hg => ?_
  exact ⟨_, (pss_cons (ps_expr (pe_callD (ok_need_house T) (hr.mono (by decide)) hg (by rfl) T.g_need_house T.F_need_house.kp T.b_need_house (pa_cons (pv 0) pa_nil)))
      (pss_cons (ps_if (pt_not (pt_val (pe_callB Dn.call_isiTuple (by rfl) T.z_isinstance B_isinstance (pa_cons (pv 1) (pa_cons (pe_bltn (v := .ty "tuple") (by rfl) T.z_tuple B_tuple rfl) pa_nil))))) (pss_one (ps_ret pe_bl)) pss_nil)
      (pss_cons (ps_if (pt_not (pt_val (pe_callB (Dn.call_allD rfl) (by rfl) T.z_all B_all (pa_cons (pe_lc (own := [("light", 2)]) rfl sc_are_lights.nd (pi_any (pv 1)) (blkOk_by (N := N_are_lights) (sc := (defScope s_are_lights)) (by decide +kernel)) (fun _ _ _ _ _ => (pg_name (i := 2) sc_are_lights.nd rfl (.inl rfl))) (fun _ _ _ _ _ => pts_nil) (fun _ _ _ _ _ => (pe_callD (ok_is_light T) (hr.mono (by decide)) hg (by rfl) T.g_is_light T.F_is_light.kp T.b_is_light (pa_cons (pv 0) (pa_cons (pv 2) pa_nil))))) pa_nil)))) (pss_one (ps_ret pe_bl)) pss_nil)
      (pss_one (ps_ret (pe_callD (ok_are_rising T) (hr.mono (by decide)) hg (by rfl) T.g_are_rising T.F_are_rising.kp T.b_are_rising (pa_cons (pe_lc (own := [("candle", 3), ("beat", 4)]) rfl sc_are_lights.nd (pi_any (pv 1)) (blkOk_by (N := N_are_lights) (sc := (defScope s_are_lights)) (by decide +kernel)) (fun _ _ _ _ _ => (pg_tup rfl (pgs_cons (pg_name (i := 3) sc_are_lights.nd rfl (.inl rfl)) (pgs_cons (pg_name (i := 4) sc_are_lights.nd rfl (.inl rfl)) pgs_nil)))) (fun _ _ _ _ _ => pts_nil) (fun _ _ _ _ _ => (pv 3))) pa_nil))))))),
    (ss_seq (ss_drop (se_tidy (se_callD (sa_cons se_var sa_nil))))
      (ss_seq (ss_if (st_tidy (st_not (st_tB (se_isi se_var)))) (ss_ret (se_c fun _ => .bl _)) ss_next)
      (ss_seq (ss_if (st_tidy (st_not (st_tB (se_cb rl_look (sa_cons (se_lc (ws := [2]) (si_seq se_var) (sw_name (i := 2) (by decide)) st_yes (se_callD (sa_cons se_var (sa_cons se_var sa_nil)))) sa_nil))))) (ss_ret (se_c fun _ => .bl _)) ss_next)
      (ss_ret (se_callD (sa_cons (se_lc (ws := [3, 4]) (si_seq se_var) (sw_tup (sws_cons (sw_name (i := 3) (by decide)) (sws_cons (sw_name (i := 4) (by decide)) sws_nil))) st_yes se_var) sa_nil))))))⟩
theorem ok_need_lights (T : Txt K mg) : FnD P w K mg base 8 T.f_need_lights T.d_need_lights ["house", "lights"] Pg.m_need_lights := by
  refine fnd_of (k := 7) T.F_need_lights sc_need_lights fun cdv A out s H hr hg => ?_
  exact ⟨_, (pss_one (ps_if (pt_not (pt_val (pe_callD (ok_are_lights T) (hr.mono (by decide)) hg (by rfl) T.g_are_lights T.F_are_lights.kp T.b_are_lights (pa_cons (pv 0) (pa_cons (pv 1) pa_nil))))) (pss_one ps_never) pss_nil)),
    (ss_if (st_tidy (st_not (st_tB (se_callD (sa_cons se_var (sa_cons se_var sa_nil)))))) ss_never ss_next)⟩
theorem ok_need_candle (T : Txt K mg) : FnD P w K mg base 4 T.f_need_candle T.d_need_candle ["house", "candle"] Pg.m_need_candle := by
  refine fnd_of (k := 3) T.F_need_candle sc_need_candle fun cdv A out s H hr hg => ?_
  exact ⟨_, (pss_one (ps_if (pt_not (pt_val (pe_callD (ok_is_candle T) (hr.mono (by decide)) hg (by rfl) T.g_is_candle T.F_is_candle.kp T.b_is_candle (pa_cons (pv 0) (pa_cons (pv 1) pa_nil))))) (pss_one ps_never) pss_nil)),
    (ss_if (st_tidy (st_not (st_tB (se_callD (sa_cons se_var (sa_cons se_var sa_nil)))))) ss_never ss_next)⟩
theorem ok_embers_from (T : Txt K mg) : FnD P w K mg base 1 T.f_embers_from T.d_embers_from ["house", "candle", "beat", "height"] Pg.m_embers_from := by
  refine fnd_of (k := 0) T.F_embers_from sc_embers_from fun cdv A out s H hr hg => ?_
  exact ⟨_, (pss_cons (ps_set (i := 4) sc_embers_from.nd rfl (.inl rfl) (pe_lst pa_nil))
      (pss_cons (ps_for PassesOwn.never rfl (pi_enumA (by rfl) T.z_enumerate (pa_cons (pe_ix ix_seq (pv 0) pe_int (fun _ _ => rfl)) pa_nil)) (pg_tup rfl (pgs_cons (pg_name (i := 5) sc_embers_from.nd rfl (.inl rfl)) (pgs_cons (pg_tup rfl (pgs_cons (pg_name (i := 6) sc_embers_from.nd rfl (.inl rfl)) (pgs_cons (pg_name (i := 7) sc_embers_from.nd rfl (.inl rfl)) (pgs_cons (pg_name (i := 8) sc_embers_from.nd rfl (.inl rfl)) (pgs_cons (pg_name (i := 9) sc_embers_from.nd rfl (.inl rfl)) (pgs_cons (pg_name (i := 10) sc_embers_from.nd rfl (.inl rfl)) pgs_nil)))))) pgs_nil))) (pss_one (ps_if ((pw_and (pt_cmpR (op_eqP hr.units) (pv 6) (pv 1) (nomark _)) (pw_and1 (pt_cmpR op_le (pv 7) (pv 3) (nomark _))))).pt (pss_one (ps_expr (pe_bm PySem.F.plainAttrs_list PySem.F.slot_list_append PySem.F.type_list_append mt_append (pv 4) (pa_cons (pe_tupN (pa_cons (pe_op op_addAll (pe_op op_sub (pe_op op_addAll (pv 2) (pv 3)) (pv 7)) (pv 10)) (pa_cons (pv 8) (pa_cons (pv 9) (pa_cons (pv 5) pa_nil))))) pa_nil)))) pss_nil)))
      (pss_one (ps_ret (pv 4))))),
    (ss_seq (ss_asg (se_tidy (se_lst sa_nil)) sg_name)
      (ss_seq (ss_for (si_enum (sa_cons (se_op rk_ix se_var (se_c fun _ => .int _)) sa_nil)) (sg_tup (sgs_cons (sg_name (i := 5)) (sgs_cons (sg_tup (sgs_cons (sg_name (i := 6)) (sgs_cons (sg_name (i := 7)) (sgs_cons (sg_name (i := 8)) (sgs_cons (sg_name (i := 9)) (sgs_cons (sg_name (i := 10)) sgs_nil)))))) sgs_nil))) (ss_if (st_tidy (st_and (st_test (se_op rk_eqP se_var se_var)) (st_test (se_op rk_le se_var se_var)))) (ss_drop (se_tidy (se_app se_var (se_tup (sa_cons (se_op rk_add (se_op rk_sub (se_op rk_add se_var se_var) se_var) se_var) (sa_cons se_var (sa_cons se_var (sa_cons se_var sa_nil)))))))) ss_next))
      (ss_ret se_var)))⟩
theorem ok_flame_in (T : Txt K mg) : FnD P w K mg base 1 T.f_flame_in T.d_flame_in ["tale", "beat"] Pg.m_flame_in := by
  refine fnd_of (k := 0) T.F_flame_in sc_flame_in fun cdv A out s H hr hg => ?_
  exact ⟨_, (pss_cons (ps_set (i := 2) sc_flame_in.nd rfl (.inl rfl) pe_int)
      (pss_cons (ps_for PassesOwn.never rfl (pi_any (pv 0)) (pg_tup rfl (pgs_cons (pg_name (i := 3) sc_flame_in.nd rfl (.inl rfl)) (pgs_cons (pg_name (i := 4) sc_flame_in.nd rfl (.inl rfl)) (pgs_cons (pg_name (i := 5) sc_flame_in.nd rfl (.inl rfl)) pgs_nil)))) (pss_one (ps_if (pt_cmpR op_le (pv 3) (pv 1) (nomark _)) (pss_one (ps_set (i := 2) sc_flame_in.nd rfl (.inl rfl) (pe_callB (call_max2 rfl) (by rfl) T.z_max B_max (pa_cons pe_int (pa_cons (pe_op op_sub (pv 4) (pe_op op_sub (pv 1) (pv 3))) pa_nil))))) pss_nil)))
      (pss_one (ps_ret (pv 2))))),
    (ss_seq (ss_asg (se_tidy (se_c fun _ => .int _)) sg_name)
      (ss_seq (ss_for (si_seq se_var) (sg_tup (sgs_cons (sg_name (i := 3)) (sgs_cons (sg_name (i := 4)) (sgs_cons (sg_name (i := 5)) sgs_nil)))) (ss_if (st_tidy (st_test (se_op rk_le se_var se_var))) (ss_asg (se_tidy (se_cb rl_max2 (sa_cons (se_c fun _ => .int _) (sa_cons (se_op rk_sub se_var (se_op rk_sub se_var se_var)) sa_nil)))) sg_name) ss_next))
      (ss_ret se_var)))⟩
theorem ok_is_sent (T : Txt K mg) : FnD P w K mg base 2 T.f_is_sent T.d_is_sent ["house", "tales", "beat", "rank"] Pg.m_is_sent := by
  refine fnd_of (k := 1) T.F_is_sent sc_is_sent fun cdv A out s H hr hg => ?_
  exact ⟨_, (pss_cons (ps_if (pt_cmpR (op_eqP hr.units) (pv 3) (pe_glob (v := .int (-1)) (by rfl) T.c_BY_LIGHT.choose_spec ⟨_, rfl⟩) (nomark _)) (pss_one (ps_ret pe_bl)) pss_nil)
      (pss_cons (ps_asg (pe_ix ix_seq (pe_ix ix_seq (pv 0) pe_int (fun _ _ => rfl)) (pv 3) (fun _ _ => rfl)) (pg_tup rfl (pgs_cons (pg_name (i := 4) sc_is_sent.nd rfl (.inl rfl)) (pgs_cons (pg_name (i := 5) sc_is_sent.nd rfl (.inl rfl)) (pgs_cons (pg_name (i := 6) sc_is_sent.nd rfl (.inl rfl)) (pgs_cons (pg_name (i := 7) sc_is_sent.nd rfl (.inl rfl)) (pgs_cons (pg_name (i := 8) sc_is_sent.nd rfl (.inl rfl)) pgs_nil)))))))
      (pss_one (ps_ret (pe_cmpR (op_eqP hr.units) (pe_callD (ok_flame_in T) (hr.mono (by decide)) hg (by rfl) T.g_flame_in T.F_flame_in.kp T.b_flame_in (pa_cons (pe_ix ix_seq (pv 1) (pv 4) (fun _ _ => rfl)) (pa_cons (pe_op op_sub (pv 2) (pv 8)) pa_nil))) (pv 5) (nomark _)))))),
    (ss_seq (ss_if (st_tidy (st_test (se_op rk_eqP se_var (se_c fun _ => .int _)))) (ss_ret (se_c fun _ => .bl _)) ss_next)
      (ss_seq (ss_asg (se_tidy (se_op rk_ix (se_op rk_ix se_var (se_c fun _ => .int _)) se_var)) (sg_tup (sgs_cons (sg_name (i := 4)) (sgs_cons (sg_name (i := 5)) (sgs_cons (sg_name (i := 6)) (sgs_cons (sg_name (i := 7)) (sgs_cons (sg_name (i := 8)) sgs_nil)))))))
      (ss_ret (se_op rk_eqP (se_callD (sa_cons (se_op rk_ix se_var se_var) (sa_cons (se_op rk_sub se_var se_var) sa_nil))) se_var))))⟩
theorem ok_with_ember (T : Txt K mg) : FnD P w K mg base 2 T.f_with_ember T.d_with_ember ["tale", "beat", "height", "rank"] Pg.m_with_ember := by
  refine fnd_of (k := 1) T.F_with_ember sc_with_ember fun cdv A out s H hr hg => ?_
  exact ⟨_, (pss_cons (ps_if ((pw_and (pt_truth (pv 0) (fun _ => rfl)) (pw_and1 (pt_cmpR op_le (pe_callD (ok_flame_in T) (hr.mono (by decide)) hg (by rfl) T.g_flame_in T.F_flame_in.kp T.b_flame_in (pa_cons (pv 0) (pa_cons (pv 1) pa_nil))) (pv 2) (nomark _))))).pt (pss_one (ps_ret (pv 0))) pss_nil)
      (pss_one (ps_ret (pe_tupN (StX.pa_star (pv 0) (pa_cons (pe_tupN (pa_cons (pv 1) (pa_cons (pv 2) (pa_cons (pe_ifExp (pt_cmpR (op_eqP hr.units) (pv 3) (pe_glob (v := .int (-1)) (by rfl) T.c_BY_LIGHT.choose_spec ⟨_, rfl⟩) (nomark _)) pe_non (pv 3)) pa_nil)))) pa_nil)))))),
    (ss_seq (ss_if (st_tidy (st_and (st_tru se_var) (st_test (se_op rk_le (se_callD (sa_cons se_var (sa_cons se_var sa_nil))) se_var)))) (ss_ret se_var) ss_next)
      (ss_ret (se_tup (sa_star se_var (sa_cons (se_tup (sa_cons se_var (sa_cons se_var (sa_cons (se_if (st_test (se_op rk_eqP se_var (se_c fun _ => .int _))) (se_c fun _ => .non) se_var) sa_nil)))) sa_nil)))))⟩
theorem ok_burnt_tales (T : Txt K mg) : FnD P w K mg base 3 T.f_burnt_tales T.d_burnt_tales ["house", "lights"] Pg.m_burnt_tales := by
  refine fnd_of (k := 2) T.F_burnt_tales sc_burnt_tales fun cdv A out s H hr hg => ?_
  exact ⟨_, (pss_cons (ps_set (i := 2) sc_burnt_tales.nd rfl (.inr rfl) (pe_ix ix_seq (pv 0) pe_int (fun _ _ => rfl)))
      (pss_cons (ps_set (i := 3) sc_burnt_tales.nd rfl (.inl rfl) (pe_op op_mulT (pe_lst (pa_cons (pe_tupN pa_nil) pa_nil)) (pe_callB Dn.call_lenD (by rfl) T.z_len B_len (pa_cons (pv 2) pa_nil))))
      (pss_cons (ps_setLc (i := 4) (own := [("candle", 7), ("beat", 6)]) rfl sc_burnt_tales.nd rfl rfl (sw_true rfl rfl rfl (by decide +kernel)) (pi_any (pv 1)) (blkOk_by (N := N_burnt_tales) (sc := (defScope s_burnt_tales)) (by decide +kernel)) (fun _ _ _ _ _ => (pg_tup rfl (pgs_cons (pg_name (i := 7) sc_burnt_tales.nd rfl (.inl rfl)) (pgs_cons (pg_name (i := 6) sc_burnt_tales.nd rfl (.inl rfl)) pgs_nil)))) (fun _ _ _ _ _ => pts_nil) (fun _ _ _ _ _ => (pe_tupN (pa_cons (pv 6) (pa_cons (pv 7) (pa_cons (pe_ix ix_seq (pv 2) (pv 7) (fun _ _ => rfl)) (pa_cons (pe_glob (v := .int (-1)) (by rfl) T.c_BY_LIGHT.choose_spec ⟨_, rfl⟩) pa_nil)))))))
      (pss_cons (ps_expr (pe_callMB (call_heapify hr.units) (by rfl) T.l_heapify (pa_cons (pv 4) pa_nil)))
      (pss_cons (ps_while PassesOwn.never (pt_truth (pv 4) (fun _ => rfl)) (pss_cons (ps_asg (pe_callMB (call_hpop hr.units) (by rfl) T.l_heappop (pa_cons (pv 4) pa_nil)) (pg_tup rfl (pgs_cons (pg_name (i := 6) sc_burnt_tales.nd rfl (.inl rfl)) (pgs_cons (pg_name (i := 7) sc_burnt_tales.nd rfl (.inl rfl)) (pgs_cons (pg_name (i := 8) sc_burnt_tales.nd rfl (.inl rfl)) (pgs_cons (pg_name (i := 9) sc_burnt_tales.nd rfl (.inl rfl)) pgs_nil))))))
      (pss_cons (ps_set (i := 5) sc_burnt_tales.nd rfl (.inl rfl) (pe_callD (ok_with_ember T) (hr.mono (by decide)) hg (by rfl) T.g_with_ember T.F_with_ember.kp T.b_with_ember (pa_cons (pe_ix ix_seq (pv 3) (pv 7) (fun _ _ => rfl)) (pa_cons (pv 6) (pa_cons (pv 8) (pa_cons (pv 9) pa_nil))))))
      (pss_one (ps_if ((pw_and (pt_cmpR (op_neP hr.units) (pv 5) (pe_ix ix_seq (pv 3) (pv 7) (fun _ _ => rfl)) (nomark _)) (pw_and1 (pt_val (pe_callD (ok_is_sent T) (hr.mono (by decide)) hg (by rfl) T.g_is_sent T.F_is_sent.kp T.b_is_sent (pa_cons (pv 0) (pa_cons (pv 3) (pa_cons (pv 6) (pa_cons (pv 9) pa_nil))))))))).pt (pss_cons (ps_asg (pv 5) (pg_sub (pv 3) (pv 7) set_list))
      (pss_one (ps_for PassesOwn.never rfl (pi_any (pe_callD (ok_embers_from T) (hr.mono (by decide)) hg (by rfl) T.g_embers_from T.F_embers_from.kp T.b_embers_from (pa_cons (pv 0) (pa_cons (pv 7) (pa_cons (pv 6) (pa_cons (pv 8) pa_nil)))))) (pg_name (i := 10) sc_burnt_tales.nd rfl (.inl rfl)) (pss_one (ps_expr (pe_callMB (call_hpush hr.units) (by rfl) T.l_heappush (pa_cons (pv 4) (pa_cons (pv 10) pa_nil)))))))) pss_nil)))))
      (pss_one (ps_ret (pe_callTy call_tupN (by rfl) T.z_tuple B_tuple (pa_cons (pv 3) pa_nil))))))))),
    (ss_seq (ss_asg (se_tidy (se_op rk_ix se_var (se_c fun _ => .int _))) sg_name)
      (ss_seq (ss_asg (se_tidy (se_op rk_mulT (se_lst (sa_cons (se_tup sa_nil) sa_nil)) (se_cb rl_look (sa_cons se_var sa_nil)))) sg_name)
      (ss_seq (ss_asg (se_tidy (se_lc (ws := [7, 6]) (si_seq se_var) (sw_tup (sws_cons (sw_name (i := 7) (by decide)) (sws_cons (sw_name (i := 6) (by decide)) sws_nil))) st_yes (se_tup (sa_cons se_var (sa_cons se_var (sa_cons (se_op rk_ix se_var se_var) (sa_cons (se_c fun _ => .int _) sa_nil))))))) sg_name)
      (ss_seq (ss_drop (se_tidy (se_cb rl_heapify (sa_cons se_var sa_nil))))
      (ss_seq (ss_while (st_tru se_var) (ss_seq (ss_asg (se_tidy (se_cb rl_hpop (sa_cons se_var sa_nil))) (sg_tup (sgs_cons (sg_name (i := 6)) (sgs_cons (sg_name (i := 7)) (sgs_cons (sg_name (i := 8)) (sgs_cons (sg_name (i := 9)) sgs_nil))))))
      (ss_seq (ss_asg (se_tidy (se_callD (sa_cons (se_op rk_ix se_var se_var) (sa_cons se_var (sa_cons se_var (sa_cons se_var sa_nil)))))) sg_name)
      (ss_if (st_tidy (st_and (st_test (se_op rk_neP se_var (se_op rk_ix se_var se_var))) (st_tB (se_callD (sa_cons se_var (sa_cons se_var (sa_cons se_var (sa_cons se_var sa_nil)))))))) (ss_seq (ss_asg (se_tidy se_var) (sg_sub se_var se_var))
      (ss_for (si_seq (se_callD (sa_cons se_var (sa_cons se_var (sa_cons se_var (sa_cons se_var sa_nil)))))) (sg_name (i := 10)) (ss_drop (se_tidy (se_cb rl_hpush (sa_cons se_var (sa_cons se_var sa_nil))))))) ss_next))))
      (ss_ret (se_cb rl_tuple (sa_cons se_var sa_nil))))))))⟩
theorem ok_is_lit (T : Txt K mg) : FnD P w K mg base 4 T.f_is_lit T.d_is_lit ["house", "lights", "candle"] Pg.m_is_lit := by
  refine fnd_of (k := 3) T.F_is_lit sc_is_lit fun cdv A out s H hr hg => ?_
  exact ⟨_, (pss_one (ps_ret (pe_cmpR (op_neP hr.units) (pe_ix ix_seq (pe_callD (ok_burnt_tales T) (hr.mono (by decide)) hg (by rfl) T.g_burnt_tales T.F_burnt_tales.kp T.b_burnt_tales (pa_cons (pv 0) (pa_cons (pv 1) pa_nil))) (pv 2) (fun _ _ => rfl)) (pe_tupN pa_nil) (nomark _)))),
    (ss_ret (se_op rk_neP (se_op rk_ix (se_callD (sa_cons se_var (sa_cons se_var sa_nil))) se_var) (se_tup sa_nil)))⟩
theorem ok_fewest_cords (T : Txt K mg) : FnD P w K mg base 9 T.f_fewest_cords T.d_fewest_cords ["house", "lights", "candle", "lit"] Pg.m_fewest_cords := by
  refine fnd_of (k := 8) T.F_fewest_cords sc_fewest_cords fun cdv A out s H hr hg => ?_
  exact ⟨_, (pss_cons (ps_expr (pe_callD (ok_need_lights T) (hr.mono (by decide)) hg (by rfl) T.g_need_lights T.F_need_lights.kp T.b_need_lights (pa_cons (pv 0) (pa_cons (pv 1) pa_nil))))
      (pss_cons (ps_expr (pe_callD (ok_need_candle T) (hr.mono (by decide)) hg (by rfl) T.g_need_candle T.F_need_candle.kp T.b_need_candle (pa_cons (pv 0) (pa_cons (pv 2) pa_nil))))
      (pss_cons (ps_for PassesOwn.never rfl (pi_any (pe_callD (ok_all_picks T) (hr.mono (by decide)) hg (by rfl) T.g_all_picks T.F_all_picks.kp T.b_all_picks (pa_cons (pe_callB Dn.call_lenD (by rfl) T.z_len B_len (pa_cons (pe_ix ix_seq (pv 0) pe_int (fun _ _ => rfl)) pa_nil)) pa_nil))) (pg_name (i := 4) sc_fewest_cords.nd rfl (.inl rfl)) (pss_one (ps_if (pt_cmpR (op_eqP hr.units) (pe_callD (ok_is_lit T) (hr.mono (by decide)) hg (by rfl) T.g_is_lit T.F_is_lit.kp T.b_is_lit (pa_cons (pe_callD (ok_cut_off T) (hr.mono (by decide)) hg (by rfl) T.g_cut_off T.F_cut_off.kp T.b_cut_off (pa_cons (pv 0) (pa_cons (pv 4) pa_nil))) (pa_cons (pv 1) (pa_cons (pv 2) pa_nil)))) (pv 3) (nomark _)) (pss_one (ps_ret (pv 4))) pss_nil)))
      (pss_one (ps_ret pe_non))))),
    (ss_seq (ss_drop (se_fz (se_callD (sa_cons se_var (sa_cons se_var sa_nil)))))
      (ss_seq (ss_drop (se_fz (se_callD (sa_cons se_var (sa_cons se_var sa_nil)))))
      (ss_seq (ss_for (si_seq (se_callD (sa_cons (se_cb rl_look (sa_cons (se_op rk_ix se_var (se_c fun _ => .int _)) sa_nil)) sa_nil))) (sg_name (i := 4)) (ss_if (st_tidy (st_test (se_op rk_eqP (se_callD (sa_cons (se_callD (sa_cons se_var (sa_cons se_var sa_nil))) (sa_cons se_var (sa_cons se_var sa_nil)))) se_var))) (ss_ret se_var) ss_next))
      (ss_ret (se_c fun _ => .non)))))⟩
theorem ok_darkening (T : Txt K mg) : FnD P w K mg base 10 T.f_darkening T.d_darkening ["house", "lights", "candle"] Pg.m_darkening := by
  refine fnd_of (k := 9) T.F_darkening sc_darkening fun cdv A out s H hr hg => ?_
  exact ⟨_, (pss_one (ps_ret (pe_callD (ok_fewest_cords T) (hr.mono (by decide)) hg (by rfl) T.g_fewest_cords T.F_fewest_cords.kp T.b_fewest_cords (pa_cons (pv 0) (pa_cons (pv 1) (pa_cons (pv 2) (pa_cons pe_bl pa_nil))))))),
    (ss_ret (se_callD (sa_cons se_var (sa_cons se_var (sa_cons se_var (sa_cons (se_c fun _ => .bl _) sa_nil))))))⟩
theorem ok_lighting (T : Txt K mg) : FnD P w K mg base 10 T.f_lighting T.d_lighting ["house", "lights", "candle"] Pg.m_lighting := by
  refine fnd_of (k := 9) T.F_lighting sc_lighting fun cdv A out s H hr hg => ?_
  exact ⟨_, (pss_one (ps_ret (pe_callD (ok_fewest_cords T) (hr.mono (by decide)) hg (by rfl) T.g_fewest_cords T.F_fewest_cords.kp T.b_fewest_cords (pa_cons (pv 0) (pa_cons (pv 1) (pa_cons (pv 2) (pa_cons pe_bl pa_nil))))))),
    (ss_ret (se_callD (sa_cons se_var (sa_cons se_var (sa_cons se_var (sa_cons (se_c fun _ => .bl _) sa_nil))))))⟩
theorem ok__law_ways_right (T : Txt K mg) : FnD P w K mg base 11 T.f__law_ways_right T.d__law_ways_right ["_law_by"] m__law_ways_right := by
  refine fnd_of (k := 10) T.F__law_ways_right sc__law_ways_right fun cdv A out s H hr hg => ?_
  exact ⟨_, (pss_cons (ps_set (i := 1) sc__law_ways_right.nd rfl (.inl rfl) (pe_tupN (pa_cons (pe_tupN (pa_cons pe_int (pa_cons pe_int (pa_cons pe_int (pa_cons pe_int pa_nil))))) (pa_cons (pe_tupN (pa_cons (pe_tupN (pa_cons pe_int (pa_cons pe_int (pa_cons pe_int (pa_cons pe_int (pa_cons pe_int pa_nil)))))) (pa_cons (pe_tupN (pa_cons pe_int (pa_cons pe_int (pa_cons pe_int (pa_cons pe_int (pa_cons pe_int pa_nil)))))) (pa_cons (pe_tupN (pa_cons pe_int (pa_cons pe_int (pa_cons pe_int (pa_cons pe_int (pa_cons pe_int pa_nil)))))) (pa_cons (pe_tupN (pa_cons pe_int (pa_cons pe_int (pa_cons pe_int (pa_cons pe_int (pa_cons pe_int pa_nil)))))) pa_nil))))) pa_nil))))
      (pss_cons (ps_set (i := 2) sc__law_ways_right.nd rfl (.inl rfl) (pe_tupN (pa_cons (pe_tupN (pa_cons pe_int (pa_cons (pv 0) pa_nil))) pa_nil)))
      (pss_cons (ps_if ((pw_or (pt_cmpR (op_neP hr.units) (pe_callD (ok_darkening T) (hr.mono (by decide)) hg (by rfl) T.g_darkening T.F_darkening.kp T.b_darkening (pa_cons (pv 1) (pa_cons (pv 2) (pa_cons pe_int pa_nil)))) (pe_tupN (pa_cons pe_int (pa_cons pe_int pa_nil))) (nomark _)) (pw_or1 (pt_cmpR (op_neP hr.units) (pe_callDK (ok_darkening T) (hr.mono (by decide)) hg (by rfl) T.g_darkening T.F_darkening.kp T.k_darkening_candle_lights_house (pk_cons pe_int (pk_cons (pv 2) (pk_cons (pv 1) pk_nil)))) (pe_tupN (pa_cons pe_int (pa_cons pe_int pa_nil))) (nomark _))))).pt (pss_one (ps_ret pe_bl)) pss_nil)
      (pss_cons (ps_if (pt_cmpR (op_neP hr.units) (pe_lst (pa_cons (pe_callD (ok_darkening T) (hr.mono (by decide)) hg (by rfl) T.g_darkening T.F_darkening.kp T.b_darkening (pa_cons (pv 1) (pa_cons (pv 2) (pa_cons pe_int pa_nil)))) (pa_cons (pe_callD (ok_darkening T) (hr.mono (by decide)) hg (by rfl) T.g_darkening T.F_darkening.kp T.b_darkening (pa_cons (pv 1) (pa_cons (pv 2) (pa_cons pe_int pa_nil)))) (pa_cons (pe_callD (ok_darkening T) (hr.mono (by decide)) hg (by rfl) T.g_darkening T.F_darkening.kp T.b_darkening (pa_cons (pv 1) (pa_cons (pe_tupN pa_nil) (pa_cons pe_int pa_nil)))) pa_nil)))) (pe_lst (pa_cons pe_non (pa_cons (pe_tupN (pa_cons pe_int pa_nil)) (pa_cons (pe_tupN pa_nil) pa_nil)))) (nomark _)) (pss_one (ps_ret pe_bl)) pss_nil)
      (pss_cons (ps_if (pt_cmpR (op_neP hr.units) (pe_lst (pa_cons (pe_callD (ok_lighting T) (hr.mono (by decide)) hg (by rfl) T.g_lighting T.F_lighting.kp T.b_lighting (pa_cons (pv 1) (pa_cons (pv 2) (pa_cons pe_int pa_nil)))) (pa_cons (pe_callDK (ok_lighting T) (hr.mono (by decide)) hg (by rfl) T.g_lighting T.F_lighting.kp T.k_lighting_candle_lights_house (pk_cons pe_int (pk_cons (pe_tupN pa_nil) (pk_cons (pv 1) pk_nil)))) pa_nil))) (pe_lst (pa_cons (pe_tupN pa_nil) (pa_cons pe_non pa_nil))) (nomark _)) (pss_one (ps_ret pe_bl)) pss_nil)
      (pss_cons (ps_set (i := 3) sc__law_ways_right.nd rfl (.inl rfl) (pe_tupN (pa_cons (pe_tupN (pa_cons pe_int (pa_cons pe_int (pa_cons pe_int pa_nil)))) (pa_cons (pe_tupN (pa_cons (pe_tupN (pa_cons pe_int (pa_cons pe_int (pa_cons pe_int (pa_cons pe_int (pa_cons pe_int pa_nil)))))) (pa_cons (pe_tupN (pa_cons pe_int (pa_cons pe_int (pa_cons pe_int (pa_cons pe_int (pa_cons pe_int pa_nil)))))) (pa_cons (pe_tupN (pa_cons pe_int (pa_cons pe_int (pa_cons pe_int (pa_cons pe_int (pa_cons pe_int pa_nil)))))) pa_nil)))) pa_nil))))
      (pss_cons (ps_if (pt_cmpR (op_neP hr.units) (pe_lst (pa_cons (pe_callD (ok_darkening T) (hr.mono (by decide)) hg (by rfl) T.g_darkening T.F_darkening.kp T.b_darkening (pa_cons (pv 3) (pa_cons (pv 2) (pa_cons pe_int pa_nil)))) (pa_cons (pe_callD (ok_darkening T) (hr.mono (by decide)) hg (by rfl) T.g_darkening T.F_darkening.kp T.b_darkening (pa_cons (pv 3) (pa_cons (pe_op op_addV (pv 2) (pe_tupN (pa_cons (pe_tupN (pa_cons pe_int (pa_cons pe_int pa_nil))) pa_nil))) (pa_cons pe_int pa_nil)))) pa_nil))) (pe_lst (pa_cons (pe_tupN (pa_cons pe_int pa_nil)) (pa_cons pe_non pa_nil))) (nomark _)) (pss_one (ps_ret pe_bl)) pss_nil)
      (pss_one (ps_ret (pe_cmpR (op_eqP hr.units) (pe_callDK (ok_without T) (hr.mono (by decide)) hg (by rfl) T.g_without T.F_without.kp T.k_without_cords_house (pk_cons (pe_tupN (pa_cons pe_int (pa_cons pe_int pa_nil))) (pk_cons (pv 1) pk_nil))) (pe_tupN (pa_cons (pe_ix ix_seq (pv 1) pe_int (fun _ _ => rfl)) (pa_cons (pe_tupN (pa_cons (pe_ix ix_seq (pe_ix ix_seq (pv 1) pe_int (fun _ _ => rfl)) pe_int (fun _ _ => rfl)) (pa_cons (pe_ix ix_seq (pe_ix ix_seq (pv 1) pe_int (fun _ _ => rfl)) pe_int (fun _ _ => rfl)) pa_nil))) pa_nil))) (nomark _))))))))))),
    (ss_seq (ss_asg (se_fz (se_tup (sa_cons (se_tup (sa_cons (se_c fun _ => .int _) (sa_cons (se_c fun _ => .int _) (sa_cons (se_c fun _ => .int _) (sa_cons (se_c fun _ => .int _) sa_nil))))) (sa_cons (se_tup (sa_cons (se_tup (sa_cons (se_c fun _ => .int _) (sa_cons (se_c fun _ => .int _) (sa_cons (se_c fun _ => .int _) (sa_cons (se_c fun _ => .int _) (sa_cons (se_c fun _ => .int _) sa_nil)))))) (sa_cons (se_tup (sa_cons (se_c fun _ => .int _) (sa_cons (se_c fun _ => .int _) (sa_cons (se_c fun _ => .int _) (sa_cons (se_c fun _ => .int _) (sa_cons (se_c fun _ => .int _) sa_nil)))))) (sa_cons (se_tup (sa_cons (se_c fun _ => .int _) (sa_cons (se_c fun _ => .int _) (sa_cons (se_c fun _ => .int _) (sa_cons (se_c fun _ => .int _) (sa_cons (se_c fun _ => .int _) sa_nil)))))) (sa_cons (se_tup (sa_cons (se_c fun _ => .int _) (sa_cons (se_c fun _ => .int _) (sa_cons (se_c fun _ => .int _) (sa_cons (se_c fun _ => .int _) (sa_cons (se_c fun _ => .int _) sa_nil)))))) sa_nil))))) sa_nil)))) sg_name)
      (ss_seq (ss_asg (se_fz (se_tup (sa_cons (se_tup (sa_cons (se_c fun _ => .int _) (sa_cons se_var sa_nil))) sa_nil))) sg_name)
      (ss_seq (ss_if (st_tidy (st_or (st_test (se_op rk_neP (se_callD (sa_cons se_var (sa_cons se_var (sa_cons (se_c fun _ => .int _) sa_nil)))) (se_tup (sa_cons (se_c fun _ => .int _) (sa_cons (se_c fun _ => .int _) sa_nil))))) (st_test (se_op rk_neP (se_callK (sa_cons (se_c fun _ => .int _) (sa_cons se_var (sa_cons se_var sa_nil)))) (se_tup (sa_cons (se_c fun _ => .int _) (sa_cons (se_c fun _ => .int _) sa_nil))))))) (ss_ret (se_c fun _ => .bl _)) ss_next)
      (ss_seq (ss_if (st_tidy (st_test (se_op rk_neP (se_lst (sa_cons (se_callD (sa_cons se_var (sa_cons se_var (sa_cons (se_c fun _ => .int _) sa_nil)))) (sa_cons (se_callD (sa_cons se_var (sa_cons se_var (sa_cons (se_c fun _ => .int _) sa_nil)))) (sa_cons (se_callD (sa_cons se_var (sa_cons (se_tup sa_nil) (sa_cons (se_c fun _ => .int _) sa_nil)))) sa_nil)))) (se_lst (sa_cons (se_c fun _ => .non) (sa_cons (se_tup (sa_cons (se_c fun _ => .int _) sa_nil)) (sa_cons (se_tup sa_nil) sa_nil))))))) (ss_ret (se_c fun _ => .bl _)) ss_next)
      (ss_seq (ss_if (st_tidy (st_test (se_op rk_neP (se_lst (sa_cons (se_callD (sa_cons se_var (sa_cons se_var (sa_cons (se_c fun _ => .int _) sa_nil)))) (sa_cons (se_callK (sa_cons (se_c fun _ => .int _) (sa_cons (se_tup sa_nil) (sa_cons se_var sa_nil)))) sa_nil))) (se_lst (sa_cons (se_tup sa_nil) (sa_cons (se_c fun _ => .non) sa_nil)))))) (ss_ret (se_c fun _ => .bl _)) ss_next)
      (ss_seq (ss_asg (se_fz (se_tup (sa_cons (se_tup (sa_cons (se_c fun _ => .int _) (sa_cons (se_c fun _ => .int _) (sa_cons (se_c fun _ => .int _) sa_nil)))) (sa_cons (se_tup (sa_cons (se_tup (sa_cons (se_c fun _ => .int _) (sa_cons (se_c fun _ => .int _) (sa_cons (se_c fun _ => .int _) (sa_cons (se_c fun _ => .int _) (sa_cons (se_c fun _ => .int _) sa_nil)))))) (sa_cons (se_tup (sa_cons (se_c fun _ => .int _) (sa_cons (se_c fun _ => .int _) (sa_cons (se_c fun _ => .int _) (sa_cons (se_c fun _ => .int _) (sa_cons (se_c fun _ => .int _) sa_nil)))))) (sa_cons (se_tup (sa_cons (se_c fun _ => .int _) (sa_cons (se_c fun _ => .int _) (sa_cons (se_c fun _ => .int _) (sa_cons (se_c fun _ => .int _) (sa_cons (se_c fun _ => .int _) sa_nil)))))) sa_nil)))) sa_nil)))) sg_name)
      (ss_seq (ss_if (st_tidy (st_test (se_op rk_neP (se_lst (sa_cons (se_callD (sa_cons se_var (sa_cons se_var (sa_cons (se_c fun _ => .int _) sa_nil)))) (sa_cons (se_callD (sa_cons se_var (sa_cons (se_fz (se_op rk_addV se_var (se_tup (sa_cons (se_tup (sa_cons (se_c fun _ => .int _) (sa_cons (se_c fun _ => .int _) sa_nil))) sa_nil)))) (sa_cons (se_c fun _ => .int _) sa_nil)))) sa_nil))) (se_lst (sa_cons (se_tup (sa_cons (se_c fun _ => .int _) sa_nil)) (sa_cons (se_c fun _ => .non) sa_nil)))))) (ss_ret (se_c fun _ => .bl _)) ss_next)
      (ss_ret (se_op rk_eqP (se_callK (sa_cons (se_tup (sa_cons (se_c fun _ => .int _) (sa_cons (se_c fun _ => .int _) sa_nil))) (sa_cons se_var sa_nil))) (se_tup (sa_cons (se_op rk_ix se_var (se_c fun _ => .int _)) (sa_cons (se_tup (sa_cons (se_op rk_ix (se_op rk_ix se_var (se_c fun _ => .int _)) (se_c fun _ => .int _)) (sa_cons (se_op rk_ix (se_op rk_ix se_var (se_c fun _ => .int _)) (se_c fun _ => .int _)) sa_nil))) sa_nil))))))))))))⟩
theorem ok_lit_by_cut (T : Txt K mg) : FnD P w K mg base 9 T.f_lit_by_cut T.d_lit_by_cut ["house", "lights"] Pg.m_lit_by_cut := by
  refine fnd_of (k := 8) T.F_lit_by_cut sc_lit_by_cut fun cdv A out s H hr hg => ?_
  exact ⟨_, (pss_cons (ps_expr (pe_callD (ok_need_lights T) (hr.mono (by decide)) hg (by rfl) T.g_need_lights T.F_need_lights.kp T.b_need_lights (pa_cons (pv 0) (pa_cons (pv 1) pa_nil))))
      (pss_cons (ps_set (i := 2) sc_lit_by_cut.nd rfl (.inl rfl) (pe_callD (ok_burnt_tales T) (hr.mono (by decide)) hg (by rfl) T.g_burnt_tales T.F_burnt_tales.kp T.b_burnt_tales (pa_cons (pv 0) (pa_cons (pv 1) pa_nil))))
      (pss_cons (ps_for PassesOwn.never rfl (pi_range1 (by rfl) T.z_range (pa_cons (pe_callB Dn.call_lenD (by rfl) T.z_len B_len (pa_cons (pe_ix ix_seq (pv 0) pe_int (fun _ _ => rfl)) pa_nil)) pa_nil)) (pg_name (i := 3) sc_lit_by_cut.nd rfl (.inl rfl)) (pss_cons (ps_set (i := 4) sc_lit_by_cut.nd rfl (.inl rfl) (pe_callD (ok_burnt_tales T) (hr.mono (by decide)) hg (by rfl) T.g_burnt_tales T.F_burnt_tales.kp T.b_burnt_tales (pa_cons (pe_callD (ok_cut_off T) (hr.mono (by decide)) hg (by rfl) T.g_cut_off T.F_cut_off.kp T.b_cut_off (pa_cons (pv 0) (pa_cons (pe_tupN (pa_cons (pv 3) pa_nil)) pa_nil))) (pa_cons (pv 1) pa_nil))))
      (pss_one (ps_for PassesOwn.never rfl (pi_enumA (by rfl) T.z_enumerate (pa_cons (pv 2) pa_nil)) (pg_tup rfl (pgs_cons (pg_name (i := 5) sc_lit_by_cut.nd rfl (.inl rfl)) (pgs_cons (pg_name (i := 6) sc_lit_by_cut.nd rfl (.inl rfl)) pgs_nil))) (pss_one (ps_if ((pw_and (pt_cmpR (op_eqP hr.units) (pv 6) (pe_tupN pa_nil) (nomark _)) (pw_and1 (pt_cmpR (op_neP hr.units) (pe_ix ix_seq (pv 4) (pv 5) (fun _ _ => rfl)) (pe_tupN pa_nil) (nomark _))))).pt (pss_one (ps_ret (pe_tupN (pa_cons (pv 3) (pa_cons (pv 5) pa_nil))))) pss_nil))))))
      (pss_one (ps_ret pe_non))))),
    (ss_seq (ss_drop (se_fz (se_callD (sa_cons se_var (sa_cons se_var sa_nil)))))
      (ss_seq (ss_asg (se_fz (se_callD (sa_cons se_var (sa_cons se_var sa_nil)))) sg_name)
      (ss_seq (ss_for (si_rng1 (sa_cons (se_cb rl_look (sa_cons (se_op rk_ix se_var (se_c fun _ => .int _)) sa_nil)) sa_nil)) (sg_name (i := 3)) (ss_seq (ss_asg (se_fz (se_callD (sa_cons (se_callD (sa_cons se_var (sa_cons (se_tup (sa_cons se_var sa_nil)) sa_nil))) (sa_cons se_var sa_nil)))) sg_name)
      (ss_for (si_enum (sa_cons se_var sa_nil)) (sg_tup (sgs_cons (sg_name (i := 5)) (sgs_cons (sg_name (i := 6)) sgs_nil))) (ss_if (st_tidy (st_and (st_test (se_op rk_eqP se_var (se_tup sa_nil))) (st_test (se_op rk_neP (se_op rk_ix se_var se_var) (se_tup sa_nil))))) (ss_ret (se_tup (sa_cons se_var (sa_cons se_var sa_nil)))) ss_next))))
      (ss_ret (se_c fun _ => .non)))))⟩
theorem ok_has_light (T : Txt K mg) : FnD P w K mg base 1 T.f_has_light T.d_has_light ["lights", "candle"] Pg.m_has_light := by
  refine fnd_of (k := 0) T.F_has_light sc_has_light fun cdv A out s H hr hg => ?_
  exact ⟨_, (pss_one (ps_ret (pe_cmpR op_in_seq (pv 1) (pe_lc (own := [("lit", 2), ("beat", 3)]) rfl sc_has_light.nd (pi_any (pv 0)) (blkOk_by (N := N_has_light) (sc := (defScope s_has_light)) (by decide +kernel)) (fun _ _ _ _ _ => (pg_tup rfl (pgs_cons (pg_name (i := 2) sc_has_light.nd rfl (.inl rfl)) (pgs_cons (pg_name (i := 3) sc_has_light.nd rfl (.inl rfl)) pgs_nil)))) (fun _ _ _ _ _ => pts_nil) (fun _ _ _ _ _ => (pv 2))) (by with_unfolding_all rfl)))),
    (ss_ret (se_op rk_in se_var (se_lc (ws := [2, 3]) (si_seq se_var) (sw_tup (sws_cons (sw_name (i := 2) (by decide)) (sws_cons (sw_name (i := 3) (by decide)) sws_nil))) st_yes se_var)))⟩
theorem ok_dark_by_light (T : Txt K mg) : FnD P w K mg base 9 T.f_dark_by_light T.d_dark_by_light ["house", "lights"] Po.m_dark_by_light := by
  refine fnd_of (k := 8) T.F_dark_by_light sc_dark_by_light fun cdv A out s H hr hg => ?_
  exact ⟨_, (pss_cons (ps_expr (pe_callD (ok_need_lights T) (hr.mono (by decide)) hg (by rfl) T.g_need_lights T.F_need_lights.kp T.b_need_lights (pa_cons (pv 0) (pa_cons (pv 1) pa_nil))))
      (pss_cons (ps_set (i := 2) sc_dark_by_light.nd rfl (.inl rfl) (pe_callD (ok_burnt_tales T) (hr.mono (by decide)) hg (by rfl) T.g_burnt_tales T.F_burnt_tales.kp T.b_burnt_tales (pa_cons (pv 0) (pa_cons (pv 1) pa_nil))))
      (pss_cons (ps_for PassesOwn.never rfl (pi_range1 (by rfl) T.z_range (pa_cons (pe_callB Dn.call_lenD (by rfl) T.z_len B_len (pa_cons (pe_ix ix_seq (pv 0) pe_int (fun _ _ => rfl)) pa_nil)) pa_nil)) (pg_name (i := 3) sc_dark_by_light.nd rfl (.inl rfl)) (pss_one (ps_if (pt_not (pt_val (pe_callD (ok_has_light T) (hr.mono (by decide)) hg (by rfl) T.g_has_light T.F_has_light.kp T.b_has_light (pa_cons (pv 1) (pa_cons (pv 3) pa_nil))))) (pss_cons (ps_set (i := 4) sc_dark_by_light.nd rfl (.inl rfl) (pe_callD (ok_burnt_tales T) (hr.mono (by decide)) hg (by rfl) T.g_burnt_tales T.F_burnt_tales.kp T.b_burnt_tales (pa_cons (pv 0) (pa_cons (pe_tupN (StX.pa_star (pv 1) (pa_cons (pe_tupN (pa_cons (pv 3) (pa_cons pe_int pa_nil))) pa_nil))) pa_nil))))
      (pss_one (ps_for PassesOwn.never rfl (pi_enumA (by rfl) T.z_enumerate (pa_cons (pv 2) pa_nil)) (pg_tup rfl (pgs_cons (pg_name (i := 5) sc_dark_by_light.nd rfl (.inl rfl)) (pgs_cons (pg_name (i := 6) sc_dark_by_light.nd rfl (.inl rfl)) pgs_nil))) (pss_one (ps_if ((pw_and (pt_cmpR (op_neP hr.units) (pv 6) (pe_tupN pa_nil) (nomark _)) (pw_and1 (pt_cmpR (op_eqP hr.units) (pe_ix ix_seq (pv 4) (pv 5) (fun _ _ => rfl)) (pe_tupN pa_nil) (nomark _))))).pt (pss_one (ps_ret (pe_tupN (pa_cons (pv 3) (pa_cons (pv 5) pa_nil))))) pss_nil))))) pss_nil)))
      (pss_one (ps_ret pe_non))))),
    (ss_seq (ss_drop (se_fz (se_callD (sa_cons se_var (sa_cons se_var sa_nil)))))
      (ss_seq (ss_asg (se_fz (se_callD (sa_cons se_var (sa_cons se_var sa_nil)))) sg_name)
      (ss_seq (ss_for (si_rng1 (sa_cons (se_cb rl_look (sa_cons (se_op rk_ix se_var (se_c fun _ => .int _)) sa_nil)) sa_nil)) (sg_name (i := 3)) (ss_if (st_tidy (st_not (st_tB (se_callD (sa_cons se_var (sa_cons se_var sa_nil)))))) (ss_seq (ss_asg (se_fz (se_callD (sa_cons se_var (sa_cons (se_tup (sa_star se_var (sa_cons (se_tup (sa_cons se_var (sa_cons (se_c fun _ => .int _) sa_nil))) sa_nil))) sa_nil)))) sg_name)
      (ss_for (si_enum (sa_cons se_var sa_nil)) (sg_tup (sgs_cons (sg_name (i := 5)) (sgs_cons (sg_name (i := 6)) sgs_nil))) (ss_if (st_tidy (st_and (st_test (se_op rk_neP se_var (se_tup sa_nil))) (st_test (se_op rk_eqP (se_op rk_ix se_var se_var) (se_tup sa_nil))))) (ss_ret (se_tup (sa_cons se_var (sa_cons se_var sa_nil)))) ss_next))) ss_next))
      (ss_ret (se_c fun _ => .non)))))⟩
theorem ok__law_set_right (T : Txt K mg) : FnD P w K mg base 11 T.f__law_set_right T.d__law_set_right ["_law_by"] m__law_set_right := by
  refine fnd_of (k := 10) T.F__law_set_right sc__law_set_right fun cdv A out s H hr hg => ?_
  exact ⟨_, (pss_cons (ps_par (i := 1) (j := 2) rfl sc__law_set_right.nd rfl rfl (by decide) rfl rfl (pa_cons (pe_tupN (pa_cons (pe_tupN (pa_cons pe_int (pa_cons pe_int (pa_cons pe_int pa_nil)))) (pa_cons (pe_tupN (pa_cons (pe_tupN (pa_cons pe_int (pa_cons pe_int (pa_cons pe_int (pa_cons pe_int (pa_cons pe_int pa_nil)))))) (pa_cons (pe_tupN (pa_cons pe_int (pa_cons pe_int (pa_cons pe_int (pa_cons pe_int (pa_cons pe_int pa_nil)))))) (pa_cons (pe_tupN (pa_cons pe_int (pa_cons pe_int (pa_cons pe_int (pa_cons pe_int (pa_cons pe_int pa_nil)))))) pa_nil)))) pa_nil))) (pa_cons (pe_tupN (pa_cons (pe_tupN (pa_cons pe_int (pa_cons (pv 0) pa_nil))) pa_nil)) pa_nil)) rfl)
      (pss_cons (ps_if (pt_cmpR (op_neP hr.units) (pe_lst (pa_cons (pe_callD (ok_lighting T) (hr.mono (by decide)) hg (by rfl) T.g_lighting T.F_lighting.kp T.b_lighting (pa_cons (pv 1) (pa_cons (pv 2) (pa_cons pe_int pa_nil)))) (pa_cons (pe_callD (ok_darkening T) (hr.mono (by decide)) hg (by rfl) T.g_darkening T.F_darkening.kp T.b_darkening (pa_cons (pv 1) (pa_cons (pv 2) (pa_cons pe_int pa_nil)))) (pa_cons (pe_callD (ok_lit_by_cut T) (hr.mono (by decide)) hg (by rfl) T.g_lit_by_cut T.F_lit_by_cut.kp T.b_lit_by_cut (pa_cons (pv 1) (pa_cons (pv 2) pa_nil))) pa_nil)))) (pe_lst (pa_cons (pe_tupN (pa_cons pe_int pa_nil)) (pa_cons (pe_tupN pa_nil) (pa_cons (pe_tupN (pa_cons pe_int (pa_cons pe_int pa_nil))) pa_nil)))) (nomark _)) (pss_one (ps_ret pe_bl)) pss_nil)
      (pss_cons (ps_if ((pw_or (pt_cmpR op_isntU (pe_callDK (ok_lit_by_cut T) (hr.mono (by decide)) hg (by rfl) T.g_lit_by_cut T.F_lit_by_cut.kp T.k_lit_by_cut_lights_house (pk_cons (pe_tupN pa_nil) (pk_cons (pv 1) pk_nil))) pe_non (nomark _)) (pw_or1 (pt_cmpR op_isntU (pe_callD (ok_dark_by_light T) (hr.mono (by decide)) hg (by rfl) T.g_dark_by_light T.F_dark_by_light.kp T.b_dark_by_light (pa_cons (pv 1) (pa_cons (pv 2) pa_nil))) pe_non (nomark _))))).pt (pss_one (ps_ret pe_bl)) pss_nil)
      (pss_cons (ps_if ((pw_or (pt_cmpR (op_neP hr.units) (pe_callDK (ok_dark_by_light T) (hr.mono (by decide)) hg (by rfl) T.g_dark_by_light T.F_dark_by_light.kp T.k_dark_by_light_lights_house (pk_cons (pe_tupN (pa_cons (pe_tupN (pa_cons pe_int (pa_cons (pe_op op_addV (pv 0) pe_int) pa_nil))) pa_nil)) (pk_cons (pv 1) pk_nil))) (pe_tupN (pa_cons pe_int (pa_cons pe_int pa_nil))) (nomark _)) (pw_or1 (pt_cmpR (op_neP hr.units) (pe_callD (ok_dark_by_light T) (hr.mono (by decide)) hg (by rfl) T.g_dark_by_light T.F_dark_by_light.kp T.b_dark_by_light (pa_cons (pv 1) (pa_cons (pe_tupN (pa_cons (pe_tupN (pa_cons pe_int (pa_cons (pv 0) pa_nil))) pa_nil)) pa_nil))) (pe_tupN (pa_cons pe_int (pa_cons pe_int pa_nil))) (nomark _))))).pt (pss_one (ps_ret pe_bl)) pss_nil)
      (pss_one (ps_ret (pe_and (pe_cmpR (op_eqP hr.units) (pe_callD (ok_lighting T) (hr.mono (by decide)) hg (by rfl) T.g_lighting T.F_lighting.kp T.b_lighting (pa_cons (pv 1) (pa_cons (pe_tupN (pa_cons (pe_tupN (pa_cons pe_int (pa_cons (pe_op op_addV (pv 0) pe_int) pa_nil))) pa_nil)) (pa_cons pe_int pa_nil)))) (pe_tupN pa_nil) (nomark _)) (pe_one (pe_cmpR (op_eqP hr.units) (pe_callD (ok_darkening T) (hr.mono (by decide)) hg (by rfl) T.g_darkening T.F_darkening.kp T.b_darkening (pa_cons (pv 1) (pa_cons (pe_tupN (pa_cons (pe_tupN (pa_cons pe_int (pa_cons (pe_op op_addV (pv 0) pe_int) pa_nil))) pa_nil)) (pa_cons pe_int pa_nil)))) (pe_tupN (pa_cons pe_int pa_nil)) (nomark _)))))))))),
    (ss_seq (ss_par (sa_cons (se_tup (sa_cons (se_tup (sa_cons (se_c fun _ => .int _) (sa_cons (se_c fun _ => .int _) (sa_cons (se_c fun _ => .int _) sa_nil)))) (sa_cons (se_tup (sa_cons (se_tup (sa_cons (se_c fun _ => .int _) (sa_cons (se_c fun _ => .int _) (sa_cons (se_c fun _ => .int _) (sa_cons (se_c fun _ => .int _) (sa_cons (se_c fun _ => .int _) sa_nil)))))) (sa_cons (se_tup (sa_cons (se_c fun _ => .int _) (sa_cons (se_c fun _ => .int _) (sa_cons (se_c fun _ => .int _) (sa_cons (se_c fun _ => .int _) (sa_cons (se_c fun _ => .int _) sa_nil)))))) (sa_cons (se_tup (sa_cons (se_c fun _ => .int _) (sa_cons (se_c fun _ => .int _) (sa_cons (se_c fun _ => .int _) (sa_cons (se_c fun _ => .int _) (sa_cons (se_c fun _ => .int _) sa_nil)))))) sa_nil)))) sa_nil))) (sa_cons (se_tup (sa_cons (se_tup (sa_cons (se_c fun _ => .int _) (sa_cons se_var sa_nil))) sa_nil)) sa_nil)))
      (ss_seq (ss_if (st_tidy (st_test (se_op rk_neP (se_lst (sa_cons (se_callD (sa_cons se_var (sa_cons se_var (sa_cons (se_c fun _ => .int _) sa_nil)))) (sa_cons (se_callD (sa_cons se_var (sa_cons se_var (sa_cons (se_c fun _ => .int _) sa_nil)))) (sa_cons (se_callD (sa_cons se_var (sa_cons se_var sa_nil))) sa_nil)))) (se_lst (sa_cons (se_tup (sa_cons (se_c fun _ => .int _) sa_nil)) (sa_cons (se_tup sa_nil) (sa_cons (se_tup (sa_cons (se_c fun _ => .int _) (sa_cons (se_c fun _ => .int _) sa_nil))) sa_nil))))))) (ss_ret (se_c fun _ => .bl _)) ss_next)
      (ss_seq (ss_if (st_tidy (st_or (st_test (se_op rk_isntU (se_callK (sa_cons (se_tup sa_nil) (sa_cons se_var sa_nil))) (se_c fun _ => .non))) (st_test (se_op rk_isntU (se_callD (sa_cons se_var (sa_cons se_var sa_nil))) (se_c fun _ => .non))))) (ss_ret (se_c fun _ => .bl _)) ss_next)
      (ss_seq (ss_if (st_tidy (st_or (st_test (se_op rk_neP (se_callK (sa_cons (se_tup (sa_cons (se_tup (sa_cons (se_c fun _ => .int _) (sa_cons (se_fz (se_op rk_addV se_var (se_c fun _ => .int _))) sa_nil))) sa_nil)) (sa_cons se_var sa_nil))) (se_tup (sa_cons (se_c fun _ => .int _) (sa_cons (se_c fun _ => .int _) sa_nil))))) (st_test (se_op rk_neP (se_callD (sa_cons se_var (sa_cons (se_tup (sa_cons (se_tup (sa_cons (se_c fun _ => .int _) (sa_cons se_var sa_nil))) sa_nil)) sa_nil))) (se_tup (sa_cons (se_c fun _ => .int _) (sa_cons (se_c fun _ => .int _) sa_nil))))))) (ss_ret (se_c fun _ => .bl _)) ss_next)
      (ss_ret (se_andV (se_op rk_eqP (se_callD (sa_cons se_var (sa_cons (se_tup (sa_cons (se_tup (sa_cons (se_c fun _ => .int _) (sa_cons (se_fz (se_op rk_addV se_var (se_c fun _ => .int _))) sa_nil))) sa_nil)) (sa_cons (se_c fun _ => .int _) sa_nil)))) (se_tup sa_nil)) (se_op rk_eqP (se_callD (sa_cons se_var (sa_cons (se_tup (sa_cons (se_tup (sa_cons (se_c fun _ => .int _) (sa_cons (se_fz (se_op rk_addV se_var (se_c fun _ => .int _))) sa_nil))) sa_nil)) (sa_cons (se_c fun _ => .int _) sa_nil)))) (se_tup (sa_cons (se_c fun _ => .int _) sa_nil)))))))))⟩
theorem ok_law (T : Txt K mg) : FnD P w K mg base 12 T.f_law T.d_law ["_law_script"] m_law := by
  refine fnd_of (k := 11) T.F_law sc_law fun cdv A out s H hr hg => ?_
  exact ⟨_, (pss_cons (ps_for PassesOwn.never rfl (pi_range1 (by rfl) T.z_range (pa_cons (pe_callB (call_max2 rfl) (by rfl) T.z_max B_max (pa_cons pe_int (pa_cons (pe_callB (call_min2 rfl) (by rfl) T.z_min B_min (pa_cons (pe_callB Dn.call_lenD (by rfl) T.z_len B_len (pa_cons (pv 0) pa_nil)) (pa_cons pe_int pa_nil))) pa_nil))) pa_nil)) (pg_name (i := 1) sc_law.nd rfl (.inl rfl)) (pss_cons (ps_set (i := 2) sc_law.nd rfl (.inl rfl) (pe_callD (ok__law_box T) (hr.mono (by decide)) hg (by rfl) T.g__law_box T.F__law_box.kp T.b__law_box (pa_cons (pv 0) (pa_cons (pv 1) pa_nil))))
      (pss_one (ps_if ((pw_or (pt_not (pt_val (pe_callD (ok__law_ways_right T) (hr.mono (by decide)) hg (by rfl) T.g__law_ways_right T.F__law_ways_right.kp T.b__law_ways_right (pa_cons (pe_callD (ok__law_take T) (hr.mono (by decide)) hg (by rfl) T.g__law_take T.F__law_take.kp T.b__law_take (pa_cons (pv 2) (pa_cons (pe_op op_pow pe_int pe_int) pa_nil))) pa_nil)))) (pw_or1 (pt_not (pt_val (pe_callD (ok__law_set_right T) (hr.mono (by decide)) hg (by rfl) T.g__law_set_right T.F__law_set_right.kp T.b__law_set_right (pa_cons (pe_callD (ok__law_take T) (hr.mono (by decide)) hg (by rfl) T.g__law_take T.F__law_take.kp T.b__law_take (pa_cons (pv 2) (pa_cons pe_int pa_nil))) pa_nil))))))).pt (pss_one (ps_ret pe_bl)) pss_nil))))
      (pss_one (ps_ret pe_bl))),
    (ss_seq (ss_for (si_rng1 (sa_cons (se_cb rl_max2 (sa_cons (se_c fun _ => .int _) (sa_cons (se_cb rl_min2 (sa_cons (se_cb rl_look (sa_cons se_var sa_nil)) (sa_cons (se_c fun _ => .int _) sa_nil))) sa_nil))) sa_nil)) (sg_name (i := 1)) (ss_seq (ss_asg (se_tidy (se_callD (sa_cons se_var (sa_cons se_var sa_nil)))) sg_name)
      (ss_if (st_tidy (st_or (st_not (st_tB (se_callD (sa_cons (se_callD (sa_cons se_var (sa_cons (se_op rk_pow (se_c fun _ => .int _) (se_c fun _ => .int _)) sa_nil))) sa_nil)))) (st_not (st_tB (se_callD (sa_cons (se_callD (sa_cons se_var (sa_cons (se_c fun _ => .int _) sa_nil))) sa_nil)))))) (ss_ret (se_c fun _ => .bl _)) ss_next)))
      (ss_ret (se_c fun _ => .bl _)))⟩
end
set_option maxHeartbeats 4000000 in
theorem all_mk {l : PySem.W.OpenLaw} {w : World} {K : PySem.W.Frag} {h : Heap} {mg : Str → Option Value} {fa : Addr} (X : K.In h) (G : h.Ns mainGlobals mg) (hfa : mg "law" = some (.ref fa))
    {f0 : Addr} {od0 an0 : Option Addr} {sl0 : Array (Option Value)} {oc0 kV0 dc0 pm0 cd0 ct0 : Value}
    {f1 : Addr} {od1 an1 : Option Addr} {sl1 : Array (Option Value)} {oc1 kV1 dc1 pm1 cd1 ct1 : Value}
    {f2 : Addr} {od2 an2 : Option Addr} {sl2 : Array (Option Value)} {oc2 kV2 dc2 pm2 cd2 ct2 : Value}
    {f3 : Addr} {od3 an3 : Option Addr} {sl3 : Array (Option Value)} {oc3 kV3 dc3 pm3 cd3 ct3 : Value}
    {f4 : Addr} {od4 an4 : Option Addr} {sl4 : Array (Option Value)} {oc4 kV4 dc4 pm4 cd4 ct4 : Value}
    {f5 : Addr} {od5 an5 : Option Addr} {sl5 : Array (Option Value)} {oc5 kV5 dc5 pm5 cd5 ct5 : Value}
    {f6 : Addr} {od6 an6 : Option Addr} {sl6 : Array (Option Value)} {oc6 kV6 dc6 pm6 cd6 ct6 : Value}
    {f7 : Addr} {od7 an7 : Option Addr} {sl7 : Array (Option Value)} {oc7 kV7 dc7 pm7 cd7 ct7 : Value}
    {f8 : Addr} {od8 an8 : Option Addr} {sl8 : Array (Option Value)} {oc8 kV8 dc8 pm8 cd8 ct8 : Value}
    {f9 : Addr} {od9 an9 : Option Addr} {sl9 : Array (Option Value)} {oc9 kV9 dc9 pm9 cd9 ct9 : Value}
    {f10 : Addr} {od10 an10 : Option Addr} {sl10 : Array (Option Value)} {oc10 kV10 dc10 pm10 cd10 ct10 : Value}
    {f11 : Addr} {od11 an11 : Option Addr} {sl11 : Array (Option Value)} {oc11 kV11 dc11 pm11 cd11 ct11 : Value}
    {f12 : Addr} {od12 an12 : Option Addr} {sl12 : Array (Option Value)} {oc12 kV12 dc12 pm12 cd12 ct12 : Value}
    {f13 : Addr} {od13 an13 : Option Addr} {sl13 : Array (Option Value)} {oc13 kV13 dc13 pm13 cd13 ct13 : Value}
    {f14 : Addr} {od14 an14 : Option Addr} {sl14 : Array (Option Value)} {oc14 kV14 dc14 pm14 cd14 ct14 : Value}
    {f15 : Addr} {od15 an15 : Option Addr} {sl15 : Array (Option Value)} {oc15 kV15 dc15 pm15 cd15 ct15 : Value}
    {f16 : Addr} {od16 an16 : Option Addr} {sl16 : Array (Option Value)} {oc16 kV16 dc16 pm16 cd16 ct16 : Value}
    {f17 : Addr} {od17 an17 : Option Addr} {sl17 : Array (Option Value)} {oc17 kV17 dc17 pm17 cd17 ct17 : Value}
    {f18 : Addr} {od18 an18 : Option Addr} {sl18 : Array (Option Value)} {oc18 kV18 dc18 pm18 cd18 ct18 : Value}
    {f19 : Addr} {od19 an19 : Option Addr} {sl19 : Array (Option Value)} {oc19 kV19 dc19 pm19 cd19 ct19 : Value}
    {f20 : Addr} {od20 an20 : Option Addr} {sl20 : Array (Option Value)} {oc20 kV20 dc20 pm20 cd20 ct20 : Value}
    {f21 : Addr} {od21 an21 : Option Addr} {sl21 : Array (Option Value)} {oc21 kV21 dc21 pm21 cd21 ct21 : Value}
    {f22 : Addr} {od22 an22 : Option Addr} {sl22 : Array (Option Value)} {oc22 kV22 dc22 pm22 cd22 ct22 : Value}
    {f23 : Addr} {od23 an23 : Option Addr} {sl23 : Array (Option Value)} {oc23 kV23 dc23 pm23 cd23 ct23 : Value}
    {f24 : Addr} {od24 an24 : Option Addr} {sl24 : Array (Option Value)} {oc24 kV24 dc24 pm24 cd24 ct24 : Value}
    {f25 : Addr} {od25 an25 : Option Addr} {sl25 : Array (Option Value)} {oc25 kV25 dc25 pm25 cd25 ct25 : Value}
    {f26 : Addr} {od26 an26 : Option Addr} {sl26 : Array (Option Value)} {oc26 kV26 dc26 pm26 cd26 ct26 : Value}
    {f27 : Addr} {od27 an27 : Option Addr} {sl27 : Array (Option Value)} {oc27 kV27 dc27 pm27 cd27 ct27 : Value}
    {f28 : Addr} {od28 an28 : Option Addr} {sl28 : Array (Option Value)} {oc28 kV28 dc28 pm28 cd28 ct28 : Value}
    {f29 : Addr} {od29 an29 : Option Addr} {sl29 : Array (Option Value)} {oc29 kV29 dc29 pm29 cd29 ct29 : Value}
    {f30 : Addr} {od30 an30 : Option Addr} {sl30 : Array (Option Value)} {oc30 kV30 dc30 pm30 cd30 ct30 : Value}
    {f31 : Addr} {od31 an31 : Option Addr} {sl31 : Array (Option Value)} {oc31 kV31 dc31 pm31 cd31 ct31 : Value}
    {f32 : Addr} {od32 an32 : Option Addr} {sl32 : Array (Option Value)} {oc32 kV32 dc32 pm32 cd32 ct32 : Value}
    {f33 : Addr} {od33 an33 : Option Addr} {sl33 : Array (Option Value)} {oc33 kV33 dc33 pm33 cd33 ct33 : Value}
    {f34 : Addr} {od34 an34 : Option Addr} {sl34 : Array (Option Value)} {oc34 kV34 dc34 pm34 cd34 ct34 : Value}
    {f35 : Addr} {od35 an35 : Option Addr} {sl35 : Array (Option Value)} {oc35 kV35 dc35 pm35 cd35 ct35 : Value}
    {t_MOST_CANDLES : Tok}
    {t_MOST_CORDS : Tok}
    {t_GREATEST : Tok}
    {t_BY_LIGHT : Tok}
    (a0 : PySem.W.nsIn K mainGlobals "_law_box" = some (some (.ref f0))) (l0 : K.lookup f0 = some ⟨oc0, od0, .func (PySem.W.fnOf "_law_box" "_law_box" (defArgs s__law_box) (defBody s__law_box) (defScope s__law_box) .none kV0 dc0 pm0 an0 cd0 ct0), sl0⟩) (c0 : PySem.W.codeIn K cd0 "_law_box" = true) (k0 : PySem.W.keepIn K (.ref f0) = true)
    (a1 : PySem.W.nsIn K mainGlobals "_law_more" = some (some (.ref f1))) (l1 : K.lookup f1 = some ⟨oc1, od1, .func (PySem.W.fnOf "_law_more" "_law_more" (defArgs s__law_more) (defBody s__law_more) (defScope s__law_more) .none kV1 dc1 pm1 an1 cd1 ct1), sl1⟩) (c1 : PySem.W.codeIn K cd1 "_law_more" = true) (k1 : PySem.W.keepIn K (.ref f1) = true)
    (a2 : PySem.W.nsIn K mainGlobals "_law_take" = some (some (.ref f2))) (l2 : K.lookup f2 = some ⟨oc2, od2, .func (PySem.W.fnOf "_law_take" "_law_take" (defArgs s__law_take) (defBody s__law_take) (defScope s__law_take) .none kV2 dc2 pm2 an2 cd2 ct2), sl2⟩) (c2 : PySem.W.codeIn K cd2 "_law_take" = true) (k2 : PySem.W.keepIn K (.ref f2) = true)
    (a3 : PySem.W.nsIn K mainGlobals "is_whole" = some (some (.ref f3))) (l3 : K.lookup f3 = some ⟨oc3, od3, .func (PySem.W.fnOf "is_whole" "is_whole" (defArgs s_is_whole) (defBody s_is_whole) (defScope s_is_whole) .none kV3 dc3 pm3 an3 cd3 ct3), sl3⟩) (c3 : PySem.W.codeIn K cd3 "is_whole" = true) (k3 : PySem.W.keepIn K (.ref f3) = true)
    (a4 : PySem.W.nsIn K mainGlobals "is_from_to" = some (some (.ref f4))) (l4 : K.lookup f4 = some ⟨oc4, od4, .func (PySem.W.fnOf "is_from_to" "is_from_to" (defArgs s_is_from_to) (defBody s_is_from_to) (defScope s_is_from_to) .none kV4 dc4 pm4 an4 cd4 ct4), sl4⟩) (c4 : PySem.W.codeIn K cd4 "is_from_to" = true) (k4 : PySem.W.keepIn K (.ref f4) = true)
    (a5 : PySem.W.nsIn K mainGlobals "are_rising" = some (some (.ref f5))) (l5 : K.lookup f5 = some ⟨oc5, od5, .func (PySem.W.fnOf "are_rising" "are_rising" (defArgs s_are_rising) (defBody s_are_rising) (defScope s_are_rising) .none kV5 dc5 pm5 an5 cd5 ct5), sl5⟩) (c5 : PySem.W.codeIn K cd5 "are_rising" = true) (k5 : PySem.W.keepIn K (.ref f5) = true)
    (a6 : PySem.W.nsIn K mainGlobals "is_pick" = some (some (.ref f6))) (l6 : K.lookup f6 = some ⟨oc6, od6, .func (PySem.W.fnOf "is_pick" "is_pick" (defArgs s_is_pick) (defBody s_is_pick) (defScope s_is_pick) .none kV6 dc6 pm6 an6 cd6 ct6), sl6⟩) (c6 : PySem.W.codeIn K cd6 "is_pick" = true) (k6 : PySem.W.keepIn K (.ref f6) = true)
    (a7 : PySem.W.nsIn K mainGlobals "are_tops" = some (some (.ref f7))) (l7 : K.lookup f7 = some ⟨oc7, od7, .func (PySem.W.fnOf "are_tops" "are_tops" (defArgs s_are_tops) (defBody s_are_tops) (defScope s_are_tops) .none kV7 dc7 pm7 an7 cd7 ct7), sl7⟩) (c7 : PySem.W.codeIn K cd7 "are_tops" = true) (k7 : PySem.W.keepIn K (.ref f7) = true)
    (a8 : PySem.W.nsIn K mainGlobals "is_cord" = some (some (.ref f8))) (l8 : K.lookup f8 = some ⟨oc8, od8, .func (PySem.W.fnOf "is_cord" "is_cord" (defArgs s_is_cord) (defBody s_is_cord) (defScope s_is_cord) .none kV8 dc8 pm8 an8 cd8 ct8), sl8⟩) (c8 : PySem.W.codeIn K cd8 "is_cord" = true) (k8 : PySem.W.keepIn K (.ref f8) = true)
    (a9 : PySem.W.nsIn K mainGlobals "are_cords" = some (some (.ref f9))) (l9 : K.lookup f9 = some ⟨oc9, od9, .func (PySem.W.fnOf "are_cords" "are_cords" (defArgs s_are_cords) (defBody s_are_cords) (defScope s_are_cords) .none kV9 dc9 pm9 an9 cd9 ct9), sl9⟩) (c9 : PySem.W.codeIn K cd9 "are_cords" = true) (k9 : PySem.W.keepIn K (.ref f9) = true)
    (a10 : PySem.W.nsIn K mainGlobals "is_house" = some (some (.ref f10))) (l10 : K.lookup f10 = some ⟨oc10, od10, .func (PySem.W.fnOf "is_house" "is_house" (defArgs s_is_house) (defBody s_is_house) (defScope s_is_house) .none kV10 dc10 pm10 an10 cd10 ct10), sl10⟩) (c10 : PySem.W.codeIn K cd10 "is_house" = true) (k10 : PySem.W.keepIn K (.ref f10) = true)
    (a11 : PySem.W.nsIn K mainGlobals "need_house" = some (some (.ref f11))) (l11 : K.lookup f11 = some ⟨oc11, od11, .func (PySem.W.fnOf "need_house" "need_house" (defArgs s_need_house) (defBody s_need_house) (defScope s_need_house) .none kV11 dc11 pm11 an11 cd11 ct11), sl11⟩) (c11 : PySem.W.codeIn K cd11 "need_house" = true) (k11 : PySem.W.keepIn K (.ref f11) = true)
    (a12 : PySem.W.nsIn K mainGlobals "cut_off" = some (some (.ref f12))) (l12 : K.lookup f12 = some ⟨oc12, od12, .func (PySem.W.fnOf "cut_off" "cut_off" (defArgs s_cut_off) (defBody s_cut_off) (defScope s_cut_off) .none kV12 dc12 pm12 an12 cd12 ct12), sl12⟩) (c12 : PySem.W.codeIn K cd12 "cut_off" = true) (k12 : PySem.W.keepIn K (.ref f12) = true)
    (a13 : PySem.W.nsIn K mainGlobals "without" = some (some (.ref f13))) (l13 : K.lookup f13 = some ⟨oc13, od13, .func (PySem.W.fnOf "without" "without" (defArgs s_without) (defBody s_without) (defScope s_without) .none kV13 dc13 pm13 an13 cd13 ct13), sl13⟩) (c13 : PySem.W.codeIn K cd13 "without" = true) (k13 : PySem.W.keepIn K (.ref f13) = true)
    (a14 : PySem.W.nsIn K mainGlobals "picks_of" = some (some (.ref f14))) (l14 : K.lookup f14 = some ⟨oc14, od14, .func (PySem.W.fnOf "picks_of" "picks_of" (defArgs s_picks_of) (defBody s_picks_of) (defScope s_picks_of) .none kV14 dc14 pm14 an14 cd14 ct14), sl14⟩) (c14 : PySem.W.codeIn K cd14 "picks_of" = true) (k14 : PySem.W.keepIn K (.ref f14) = true)
    (a15 : PySem.W.nsIn K mainGlobals "all_picks" = some (some (.ref f15))) (l15 : K.lookup f15 = some ⟨oc15, od15, .func (PySem.W.fnOf "all_picks" "all_picks" (defArgs s_all_picks) (defBody s_all_picks) (defScope s_all_picks) .none kV15 dc15 pm15 an15 cd15 ct15), sl15⟩) (c15 : PySem.W.codeIn K cd15 "all_picks" = true) (k15 : PySem.W.keepIn K (.ref f15) = true)
    (a16 : PySem.W.nsIn K mainGlobals "is_candle" = some (some (.ref f16))) (l16 : K.lookup f16 = some ⟨oc16, od16, .func (PySem.W.fnOf "is_candle" "is_candle" (defArgs s_is_candle) (defBody s_is_candle) (defScope s_is_candle) .none kV16 dc16 pm16 an16 cd16 ct16), sl16⟩) (c16 : PySem.W.codeIn K cd16 "is_candle" = true) (k16 : PySem.W.keepIn K (.ref f16) = true)
    (a17 : PySem.W.nsIn K mainGlobals "is_light" = some (some (.ref f17))) (l17 : K.lookup f17 = some ⟨oc17, od17, .func (PySem.W.fnOf "is_light" "is_light" (defArgs s_is_light) (defBody s_is_light) (defScope s_is_light) .none kV17 dc17 pm17 an17 cd17 ct17), sl17⟩) (c17 : PySem.W.codeIn K cd17 "is_light" = true) (k17 : PySem.W.keepIn K (.ref f17) = true)
    (a18 : PySem.W.nsIn K mainGlobals "are_lights" = some (some (.ref f18))) (l18 : K.lookup f18 = some ⟨oc18, od18, .func (PySem.W.fnOf "are_lights" "are_lights" (defArgs s_are_lights) (defBody s_are_lights) (defScope s_are_lights) .none kV18 dc18 pm18 an18 cd18 ct18), sl18⟩) (c18 : PySem.W.codeIn K cd18 "are_lights" = true) (k18 : PySem.W.keepIn K (.ref f18) = true)
    (a19 : PySem.W.nsIn K mainGlobals "need_lights" = some (some (.ref f19))) (l19 : K.lookup f19 = some ⟨oc19, od19, .func (PySem.W.fnOf "need_lights" "need_lights" (defArgs s_need_lights) (defBody s_need_lights) (defScope s_need_lights) .none kV19 dc19 pm19 an19 cd19 ct19), sl19⟩) (c19 : PySem.W.codeIn K cd19 "need_lights" = true) (k19 : PySem.W.keepIn K (.ref f19) = true)
    (a20 : PySem.W.nsIn K mainGlobals "need_candle" = some (some (.ref f20))) (l20 : K.lookup f20 = some ⟨oc20, od20, .func (PySem.W.fnOf "need_candle" "need_candle" (defArgs s_need_candle) (defBody s_need_candle) (defScope s_need_candle) .none kV20 dc20 pm20 an20 cd20 ct20), sl20⟩) (c20 : PySem.W.codeIn K cd20 "need_candle" = true) (k20 : PySem.W.keepIn K (.ref f20) = true)
    (a21 : PySem.W.nsIn K mainGlobals "embers_from" = some (some (.ref f21))) (l21 : K.lookup f21 = some ⟨oc21, od21, .func (PySem.W.fnOf "embers_from" "embers_from" (defArgs s_embers_from) (defBody s_embers_from) (defScope s_embers_from) .none kV21 dc21 pm21 an21 cd21 ct21), sl21⟩) (c21 : PySem.W.codeIn K cd21 "embers_from" = true) (k21 : PySem.W.keepIn K (.ref f21) = true)
    (a22 : PySem.W.nsIn K mainGlobals "flame_in" = some (some (.ref f22))) (l22 : K.lookup f22 = some ⟨oc22, od22, .func (PySem.W.fnOf "flame_in" "flame_in" (defArgs s_flame_in) (defBody s_flame_in) (defScope s_flame_in) .none kV22 dc22 pm22 an22 cd22 ct22), sl22⟩) (c22 : PySem.W.codeIn K cd22 "flame_in" = true) (k22 : PySem.W.keepIn K (.ref f22) = true)
    (a23 : PySem.W.nsIn K mainGlobals "is_sent" = some (some (.ref f23))) (l23 : K.lookup f23 = some ⟨oc23, od23, .func (PySem.W.fnOf "is_sent" "is_sent" (defArgs s_is_sent) (defBody s_is_sent) (defScope s_is_sent) .none kV23 dc23 pm23 an23 cd23 ct23), sl23⟩) (c23 : PySem.W.codeIn K cd23 "is_sent" = true) (k23 : PySem.W.keepIn K (.ref f23) = true)
    (a24 : PySem.W.nsIn K mainGlobals "with_ember" = some (some (.ref f24))) (l24 : K.lookup f24 = some ⟨oc24, od24, .func (PySem.W.fnOf "with_ember" "with_ember" (defArgs s_with_ember) (defBody s_with_ember) (defScope s_with_ember) .none kV24 dc24 pm24 an24 cd24 ct24), sl24⟩) (c24 : PySem.W.codeIn K cd24 "with_ember" = true) (k24 : PySem.W.keepIn K (.ref f24) = true)
    (a25 : PySem.W.nsIn K mainGlobals "burnt_tales" = some (some (.ref f25))) (l25 : K.lookup f25 = some ⟨oc25, od25, .func (PySem.W.fnOf "burnt_tales" "burnt_tales" (defArgs s_burnt_tales) (defBody s_burnt_tales) (defScope s_burnt_tales) .none kV25 dc25 pm25 an25 cd25 ct25), sl25⟩) (c25 : PySem.W.codeIn K cd25 "burnt_tales" = true) (k25 : PySem.W.keepIn K (.ref f25) = true)
    (a26 : PySem.W.nsIn K mainGlobals "is_lit" = some (some (.ref f26))) (l26 : K.lookup f26 = some ⟨oc26, od26, .func (PySem.W.fnOf "is_lit" "is_lit" (defArgs s_is_lit) (defBody s_is_lit) (defScope s_is_lit) .none kV26 dc26 pm26 an26 cd26 ct26), sl26⟩) (c26 : PySem.W.codeIn K cd26 "is_lit" = true) (k26 : PySem.W.keepIn K (.ref f26) = true)
    (a27 : PySem.W.nsIn K mainGlobals "fewest_cords" = some (some (.ref f27))) (l27 : K.lookup f27 = some ⟨oc27, od27, .func (PySem.W.fnOf "fewest_cords" "fewest_cords" (defArgs s_fewest_cords) (defBody s_fewest_cords) (defScope s_fewest_cords) .none kV27 dc27 pm27 an27 cd27 ct27), sl27⟩) (c27 : PySem.W.codeIn K cd27 "fewest_cords" = true) (k27 : PySem.W.keepIn K (.ref f27) = true)
    (a28 : PySem.W.nsIn K mainGlobals "darkening" = some (some (.ref f28))) (l28 : K.lookup f28 = some ⟨oc28, od28, .func (PySem.W.fnOf "darkening" "darkening" (defArgs s_darkening) (defBody s_darkening) (defScope s_darkening) .none kV28 dc28 pm28 an28 cd28 ct28), sl28⟩) (c28 : PySem.W.codeIn K cd28 "darkening" = true) (k28 : PySem.W.keepIn K (.ref f28) = true)
    (a29 : PySem.W.nsIn K mainGlobals "lighting" = some (some (.ref f29))) (l29 : K.lookup f29 = some ⟨oc29, od29, .func (PySem.W.fnOf "lighting" "lighting" (defArgs s_lighting) (defBody s_lighting) (defScope s_lighting) .none kV29 dc29 pm29 an29 cd29 ct29), sl29⟩) (c29 : PySem.W.codeIn K cd29 "lighting" = true) (k29 : PySem.W.keepIn K (.ref f29) = true)
    (a30 : PySem.W.nsIn K mainGlobals "_law_ways_right" = some (some (.ref f30))) (l30 : K.lookup f30 = some ⟨oc30, od30, .func (PySem.W.fnOf "_law_ways_right" "_law_ways_right" (defArgs s__law_ways_right) (defBody s__law_ways_right) (defScope s__law_ways_right) .none kV30 dc30 pm30 an30 cd30 ct30), sl30⟩) (c30 : PySem.W.codeIn K cd30 "_law_ways_right" = true) (k30 : PySem.W.keepIn K (.ref f30) = true)
    (a31 : PySem.W.nsIn K mainGlobals "lit_by_cut" = some (some (.ref f31))) (l31 : K.lookup f31 = some ⟨oc31, od31, .func (PySem.W.fnOf "lit_by_cut" "lit_by_cut" (defArgs s_lit_by_cut) (defBody s_lit_by_cut) (defScope s_lit_by_cut) .none kV31 dc31 pm31 an31 cd31 ct31), sl31⟩) (c31 : PySem.W.codeIn K cd31 "lit_by_cut" = true) (k31 : PySem.W.keepIn K (.ref f31) = true)
    (a32 : PySem.W.nsIn K mainGlobals "has_light" = some (some (.ref f32))) (l32 : K.lookup f32 = some ⟨oc32, od32, .func (PySem.W.fnOf "has_light" "has_light" (defArgs s_has_light) (defBody s_has_light) (defScope s_has_light) .none kV32 dc32 pm32 an32 cd32 ct32), sl32⟩) (c32 : PySem.W.codeIn K cd32 "has_light" = true) (k32 : PySem.W.keepIn K (.ref f32) = true)
    (a33 : PySem.W.nsIn K mainGlobals "dark_by_light" = some (some (.ref f33))) (l33 : K.lookup f33 = some ⟨oc33, od33, .func (PySem.W.fnOf "dark_by_light" "dark_by_light" (defArgs s_dark_by_light) (defBody s_dark_by_light) (defScope s_dark_by_light) .none kV33 dc33 pm33 an33 cd33 ct33), sl33⟩) (c33 : PySem.W.codeIn K cd33 "dark_by_light" = true) (k33 : PySem.W.keepIn K (.ref f33) = true)
    (a34 : PySem.W.nsIn K mainGlobals "_law_set_right" = some (some (.ref f34))) (l34 : K.lookup f34 = some ⟨oc34, od34, .func (PySem.W.fnOf "_law_set_right" "_law_set_right" (defArgs s__law_set_right) (defBody s__law_set_right) (defScope s__law_set_right) .none kV34 dc34 pm34 an34 cd34 ct34), sl34⟩) (c34 : PySem.W.codeIn K cd34 "_law_set_right" = true) (k34 : PySem.W.keepIn K (.ref f34) = true)
    (a35 : PySem.W.nsIn K mainGlobals "law" = some (some (.ref f35))) (l35 : K.lookup f35 = some ⟨oc35, od35, .func (PySem.W.fnOf "law" "law" (defArgs s_law) (defBody s_law) (defScope s_law) .none kV35 dc35 pm35 an35 cd35 ct35), sl35⟩) (c35 : PySem.W.codeIn K cd35 "law" = true) (k35 : PySem.W.keepIn K (.ref f35) = true)
    (q_MOST_CANDLES : PySem.W.nsIn K mainGlobals "MOST_CANDLES" = some (some (.int (7) t_MOST_CANDLES)))
    (q_MOST_CORDS : PySem.W.nsIn K mainGlobals "MOST_CORDS" = some (some (.int (10) t_MOST_CORDS)))
    (q_GREATEST : PySem.W.nsIn K mainGlobals "GREATEST" = some (some (.int (1000000) t_GREATEST)))
    (q_BY_LIGHT : PySem.W.nsIn K mainGlobals "BY_LIGHT" = some (some (.int (-1) t_BY_LIGHT)))
    (z_abs : PySem.W.nsIn K mainGlobals "abs" = some none)
    (z_all : PySem.W.nsIn K mainGlobals "all" = some none)
    (z_bool : PySem.W.nsIn K mainGlobals "bool" = some none)
    (z_divmod : PySem.W.nsIn K mainGlobals "divmod" = some none)
    (z_enumerate : PySem.W.nsIn K mainGlobals "enumerate" = some none)
    (z_int : PySem.W.nsIn K mainGlobals "int" = some none)
    (z_isinstance : PySem.W.nsIn K mainGlobals "isinstance" = some none)
    (z_len : PySem.W.nsIn K mainGlobals "len" = some none)
    (z_list : PySem.W.nsIn K mainGlobals "list" = some none)
    (z_max : PySem.W.nsIn K mainGlobals "max" = some none)
    (z_min : PySem.W.nsIn K mainGlobals "min" = some none)
    (z_range : PySem.W.nsIn K mainGlobals "range" = some none)
    (z_tuple : PySem.W.nsIn K mainGlobals "tuple" = some none)
    (z_zip : PySem.W.nsIn K mainGlobals "zip" = some none)
    (l_combinations : PySem.W.nsIn K mainGlobals "combinations" = some (some (.type "itertools.combinations")))
    (l_heapify : PySem.W.nsIn K mainGlobals "heapify" = some (some (.builtin "_heapq.heapify")))
    (l_heappop : PySem.W.nsIn K mainGlobals "heappop" = some (some (.builtin "_heapq.heappop")))
    (l_heappush : PySem.W.nsIn K mainGlobals "heappush" = some (some (.builtin "_heapq.heappush"))) :
    ∃ fd : FuncData, (∀ (s : Shared) (v : Value), BindsTo s fd ⟨[v], []⟩ [("_law_script", v)]) ∧ ∀ base : Heap, K.In base → base.Ns mainGlobals mg → FnD l.prog w K mg base 12 fa fd ["_law_script"] m_law := by
  have e := hfa.symm.trans (PySem.W.mg_of X G a35)
  cases e
  let T : Txt K mg := {
    f__law_box := f0, d__law_box := _, F__law_box := fun_mk (st := s__law_box) l0 c0 k0, b__law_box := (fun_mk (st := s__law_box) l0 c0 k0).binds (ps := ["_law_script", "_law_k"]) fun _ _ _ _ _ _ us hl => match us, hl with | [_, _], _ => rfl
    g__law_box := PySem.W.mg_of X G a0
    f__law_more := f1, d__law_more := _, F__law_more := fun_mk (st := s__law_more) l1 c1 k1, b__law_more := (fun_mk (st := s__law_more) l1 c1 k1).binds (ps := ["_law_box_here"]) fun _ _ _ _ _ _ us hl => match us, hl with | [_], _ => rfl
    g__law_more := PySem.W.mg_of X G a1
    f__law_take := f2, d__law_take := _, F__law_take := fun_mk (st := s__law_take) l2 c2 k2, b__law_take := (fun_mk (st := s__law_take) l2 c2 k2).binds (ps := ["_law_box_here", "_law_count"]) fun _ _ _ _ _ _ us hl => match us, hl with | [_, _], _ => rfl
    g__law_take := PySem.W.mg_of X G a2
    f_is_whole := f3, d_is_whole := _, F_is_whole := fun_mk (st := s_is_whole) l3 c3 k3, b_is_whole := (fun_mk (st := s_is_whole) l3 c3 k3).binds (ps := ["thing"]) fun _ _ _ _ _ _ us hl => match us, hl with | [_], _ => rfl
    g_is_whole := PySem.W.mg_of X G a3
    f_is_from_to := f4, d_is_from_to := _, F_is_from_to := fun_mk (st := s_is_from_to) l4 c4 k4, b_is_from_to := (fun_mk (st := s_is_from_to) l4 c4 k4).binds (ps := ["thing", "low", "high"]) fun _ _ _ _ _ _ us hl => match us, hl with | [_, _, _], _ => rfl
    g_is_from_to := PySem.W.mg_of X G a4
    f_are_rising := f5, d_are_rising := _, F_are_rising := fun_mk (st := s_are_rising) l5 c5 k5, b_are_rising := (fun_mk (st := s_are_rising) l5 c5 k5).binds (ps := ["numbers"]) fun _ _ _ _ _ _ us hl => match us, hl with | [_], _ => rfl
    g_are_rising := PySem.W.mg_of X G a5
    f_is_pick := f6, d_is_pick := _, F_is_pick := fun_mk (st := s_is_pick) l6 c6 k6, b_is_pick := (fun_mk (st := s_is_pick) l6 c6 k6).binds (ps := ["thing", "many"]) fun _ _ _ _ _ _ us hl => match us, hl with | [_, _], _ => rfl
    g_is_pick := PySem.W.mg_of X G a6
    f_are_tops := f7, d_are_tops := _, F_are_tops := fun_mk (st := s_are_tops) l7 c7 k7, b_are_tops := (fun_mk (st := s_are_tops) l7 c7 k7).binds (ps := ["thing"]) fun _ _ _ _ _ _ us hl => match us, hl with | [_], _ => rfl
    g_are_tops := PySem.W.mg_of X G a7
    f_is_cord := f8, d_is_cord := _, F_is_cord := fun_mk (st := s_is_cord) l8 c8 k8, b_is_cord := (fun_mk (st := s_is_cord) l8 c8 k8).binds (ps := ["tops", "thing"]) fun _ _ _ _ _ _ us hl => match us, hl with | [_, _], _ => rfl
    g_is_cord := PySem.W.mg_of X G a8
    f_are_cords := f9, d_are_cords := _, F_are_cords := fun_mk (st := s_are_cords) l9 c9 k9, b_are_cords := (fun_mk (st := s_are_cords) l9 c9 k9).binds (ps := ["tops", "thing"]) fun _ _ _ _ _ _ us hl => match us, hl with | [_, _], _ => rfl
    g_are_cords := PySem.W.mg_of X G a9
    f_is_house := f10, d_is_house := _, F_is_house := fun_mk (st := s_is_house) l10 c10 k10, b_is_house := (fun_mk (st := s_is_house) l10 c10 k10).binds (ps := ["thing"]) fun _ _ _ _ _ _ us hl => match us, hl with | [_], _ => rfl
    g_is_house := PySem.W.mg_of X G a10
    f_need_house := f11, d_need_house := _, F_need_house := fun_mk (st := s_need_house) l11 c11 k11, b_need_house := (fun_mk (st := s_need_house) l11 c11 k11).binds (ps := ["house"]) fun _ _ _ _ _ _ us hl => match us, hl with | [_], _ => rfl
    g_need_house := PySem.W.mg_of X G a11
    f_cut_off := f12, d_cut_off := _, F_cut_off := fun_mk (st := s_cut_off) l12 c12 k12, b_cut_off := (fun_mk (st := s_cut_off) l12 c12 k12).binds (ps := ["house", "cords"]) fun _ _ _ _ _ _ us hl => match us, hl with | [_, _], _ => rfl
    g_cut_off := PySem.W.mg_of X G a12
    f_without := f13, d_without := _, F_without := fun_mk (st := s_without) l13 c13 k13, b_without := (fun_mk (st := s_without) l13 c13 k13).binds (ps := ["house", "cords"]) fun _ _ _ _ _ _ us hl => match us, hl with | [_, _], _ => rfl
    g_without := PySem.W.mg_of X G a13
    f_picks_of := f14, d_picks_of := _, F_picks_of := fun_mk (st := s_picks_of) l14 c14 k14, b_picks_of := (fun_mk (st := s_picks_of) l14 c14 k14).binds (ps := ["numbers"]) fun _ _ _ _ _ _ us hl => match us, hl with | [_], _ => rfl
    g_picks_of := PySem.W.mg_of X G a14
    f_all_picks := f15, d_all_picks := _, F_all_picks := fun_mk (st := s_all_picks) l15 c15 k15, b_all_picks := (fun_mk (st := s_all_picks) l15 c15 k15).binds (ps := ["many"]) fun _ _ _ _ _ _ us hl => match us, hl with | [_], _ => rfl
    g_all_picks := PySem.W.mg_of X G a15
    f_is_candle := f16, d_is_candle := _, F_is_candle := fun_mk (st := s_is_candle) l16 c16 k16, b_is_candle := (fun_mk (st := s_is_candle) l16 c16 k16).binds (ps := ["house", "thing"]) fun _ _ _ _ _ _ us hl => match us, hl with | [_, _], _ => rfl
    g_is_candle := PySem.W.mg_of X G a16
    f_is_light := f17, d_is_light := _, F_is_light := fun_mk (st := s_is_light) l17 c17 k17, b_is_light := (fun_mk (st := s_is_light) l17 c17 k17).binds (ps := ["house", "thing"]) fun _ _ _ _ _ _ us hl => match us, hl with | [_, _], _ => rfl
    g_is_light := PySem.W.mg_of X G a17
    f_are_lights := f18, d_are_lights := _, F_are_lights := fun_mk (st := s_are_lights) l18 c18 k18, b_are_lights := (fun_mk (st := s_are_lights) l18 c18 k18).binds (ps := ["house", "thing"]) fun _ _ _ _ _ _ us hl => match us, hl with | [_, _], _ => rfl
    g_are_lights := PySem.W.mg_of X G a18
    f_need_lights := f19, d_need_lights := _, F_need_lights := fun_mk (st := s_need_lights) l19 c19 k19, b_need_lights := (fun_mk (st := s_need_lights) l19 c19 k19).binds (ps := ["house", "lights"]) fun _ _ _ _ _ _ us hl => match us, hl with | [_, _], _ => rfl
    g_need_lights := PySem.W.mg_of X G a19
    f_need_candle := f20, d_need_candle := _, F_need_candle := fun_mk (st := s_need_candle) l20 c20 k20, b_need_candle := (fun_mk (st := s_need_candle) l20 c20 k20).binds (ps := ["house", "candle"]) fun _ _ _ _ _ _ us hl => match us, hl with | [_, _], _ => rfl
    g_need_candle := PySem.W.mg_of X G a20
    f_embers_from := f21, d_embers_from := _, F_embers_from := fun_mk (st := s_embers_from) l21 c21 k21, b_embers_from := (fun_mk (st := s_embers_from) l21 c21 k21).binds (ps := ["house", "candle", "beat", "height"]) fun _ _ _ _ _ _ us hl => match us, hl with | [_, _, _, _], _ => rfl
    g_embers_from := PySem.W.mg_of X G a21
    f_flame_in := f22, d_flame_in := _, F_flame_in := fun_mk (st := s_flame_in) l22 c22 k22, b_flame_in := (fun_mk (st := s_flame_in) l22 c22 k22).binds (ps := ["tale", "beat"]) fun _ _ _ _ _ _ us hl => match us, hl with | [_, _], _ => rfl
    g_flame_in := PySem.W.mg_of X G a22
    f_is_sent := f23, d_is_sent := _, F_is_sent := fun_mk (st := s_is_sent) l23 c23 k23, b_is_sent := (fun_mk (st := s_is_sent) l23 c23 k23).binds (ps := ["house", "tales", "beat", "rank"]) fun _ _ _ _ _ _ us hl => match us, hl with | [_, _, _, _], _ => rfl
    g_is_sent := PySem.W.mg_of X G a23
    f_with_ember := f24, d_with_ember := _, F_with_ember := fun_mk (st := s_with_ember) l24 c24 k24, b_with_ember := (fun_mk (st := s_with_ember) l24 c24 k24).binds (ps := ["tale", "beat", "height", "rank"]) fun _ _ _ _ _ _ us hl => match us, hl with | [_, _, _, _], _ => rfl
    g_with_ember := PySem.W.mg_of X G a24
    f_burnt_tales := f25, d_burnt_tales := _, F_burnt_tales := fun_mk (st := s_burnt_tales) l25 c25 k25, b_burnt_tales := (fun_mk (st := s_burnt_tales) l25 c25 k25).binds (ps := ["house", "lights"]) fun _ _ _ _ _ _ us hl => match us, hl with | [_, _], _ => rfl
    g_burnt_tales := PySem.W.mg_of X G a25
    f_is_lit := f26, d_is_lit := _, F_is_lit := fun_mk (st := s_is_lit) l26 c26 k26, b_is_lit := (fun_mk (st := s_is_lit) l26 c26 k26).binds (ps := ["house", "lights", "candle"]) fun _ _ _ _ _ _ us hl => match us, hl with | [_, _, _], _ => rfl
    g_is_lit := PySem.W.mg_of X G a26
    f_fewest_cords := f27, d_fewest_cords := _, F_fewest_cords := fun_mk (st := s_fewest_cords) l27 c27 k27, b_fewest_cords := (fun_mk (st := s_fewest_cords) l27 c27 k27).binds (ps := ["house", "lights", "candle", "lit"]) fun _ _ _ _ _ _ us hl => match us, hl with | [_, _, _, _], _ => rfl
    g_fewest_cords := PySem.W.mg_of X G a27
    f_darkening := f28, d_darkening := _, F_darkening := fun_mk (st := s_darkening) l28 c28 k28, b_darkening := (fun_mk (st := s_darkening) l28 c28 k28).binds (ps := ["house", "lights", "candle"]) fun _ _ _ _ _ _ us hl => match us, hl with | [_, _, _], _ => rfl
    g_darkening := PySem.W.mg_of X G a28
    f_lighting := f29, d_lighting := _, F_lighting := fun_mk (st := s_lighting) l29 c29 k29, b_lighting := (fun_mk (st := s_lighting) l29 c29 k29).binds (ps := ["house", "lights", "candle"]) fun _ _ _ _ _ _ us hl => match us, hl with | [_, _, _], _ => rfl
    g_lighting := PySem.W.mg_of X G a29
    f__law_ways_right := f30, d__law_ways_right := _, F__law_ways_right := fun_mk (st := s__law_ways_right) l30 c30 k30, b__law_ways_right := (fun_mk (st := s__law_ways_right) l30 c30 k30).binds (ps := ["_law_by"]) fun _ _ _ _ _ _ us hl => match us, hl with | [_], _ => rfl
    g__law_ways_right := PySem.W.mg_of X G a30
    f_lit_by_cut := f31, d_lit_by_cut := _, F_lit_by_cut := fun_mk (st := s_lit_by_cut) l31 c31 k31, b_lit_by_cut := (fun_mk (st := s_lit_by_cut) l31 c31 k31).binds (ps := ["house", "lights"]) fun _ _ _ _ _ _ us hl => match us, hl with | [_, _], _ => rfl
    g_lit_by_cut := PySem.W.mg_of X G a31
    f_has_light := f32, d_has_light := _, F_has_light := fun_mk (st := s_has_light) l32 c32 k32, b_has_light := (fun_mk (st := s_has_light) l32 c32 k32).binds (ps := ["lights", "candle"]) fun _ _ _ _ _ _ us hl => match us, hl with | [_, _], _ => rfl
    g_has_light := PySem.W.mg_of X G a32
    f_dark_by_light := f33, d_dark_by_light := _, F_dark_by_light := fun_mk (st := s_dark_by_light) l33 c33 k33, b_dark_by_light := (fun_mk (st := s_dark_by_light) l33 c33 k33).binds (ps := ["house", "lights"]) fun _ _ _ _ _ _ us hl => match us, hl with | [_, _], _ => rfl
    g_dark_by_light := PySem.W.mg_of X G a33
    f__law_set_right := f34, d__law_set_right := _, F__law_set_right := fun_mk (st := s__law_set_right) l34 c34 k34, b__law_set_right := (fun_mk (st := s__law_set_right) l34 c34 k34).binds (ps := ["_law_by"]) fun _ _ _ _ _ _ us hl => match us, hl with | [_], _ => rfl
    g__law_set_right := PySem.W.mg_of X G a34
    f_law := fa, d_law := _, F_law := fun_mk (st := s_law) l35 c35 k35, b_law := (fun_mk (st := s_law) l35 c35 k35).binds (ps := ["_law_script"]) fun _ _ _ _ _ _ us hl => match us, hl with | [_], _ => rfl
    g_law := PySem.W.mg_of X G a35
    c_MOST_CANDLES := ⟨_, PySem.W.mg_of X G q_MOST_CANDLES⟩
    c_MOST_CORDS := ⟨_, PySem.W.mg_of X G q_MOST_CORDS⟩
    c_GREATEST := ⟨_, PySem.W.mg_of X G q_GREATEST⟩
    c_BY_LIGHT := ⟨_, PySem.W.mg_of X G q_BY_LIGHT⟩
    z_abs := PySem.W.mg_none_of X G z_abs
    z_all := PySem.W.mg_none_of X G z_all
    z_bool := PySem.W.mg_none_of X G z_bool
    z_divmod := PySem.W.mg_none_of X G z_divmod
    z_enumerate := PySem.W.mg_none_of X G z_enumerate
    z_int := PySem.W.mg_none_of X G z_int
    z_isinstance := PySem.W.mg_none_of X G z_isinstance
    z_len := PySem.W.mg_none_of X G z_len
    z_list := PySem.W.mg_none_of X G z_list
    z_max := PySem.W.mg_none_of X G z_max
    z_min := PySem.W.mg_none_of X G z_min
    z_range := PySem.W.mg_none_of X G z_range
    z_tuple := PySem.W.mg_none_of X G z_tuple
    z_zip := PySem.W.mg_none_of X G z_zip
    l_combinations := PySem.W.mg_of X G l_combinations
    l_heapify := PySem.W.mg_of X G l_heapify
    l_heappop := PySem.W.mg_of X G l_heappop
    l_heappush := PySem.W.mg_of X G l_heappush
    k_dark_by_light_lights_house := fun _ ws hl => match ws, hl with | [w0, w1], _ => .of_eq rfl
    k_darkening_candle_lights_house := fun _ ws hl => match ws, hl with | [w0, w1, w2], _ => .of_eq rfl
    k_lighting_candle_lights_house := fun _ ws hl => match ws, hl with | [w0, w1, w2], _ => .of_eq rfl
    k_lit_by_cut_lights_house := fun _ ws hl => match ws, hl with | [w0, w1], _ => .of_eq rfl
    k_without_cords_house := fun _ ws hl => match ws, hl with | [w0, w1], _ => .of_eq rfl }
  exact ⟨T.d_law, fun s v => .of_eq rfl, fun base _ _ => ok_law T⟩
end K38
set_option Elab.async false
set_option linter.all false
set_option maxRecDepth 100000
set_option maxHeartbeats 1000000
namespace K38
open PySem PySem.Spec PyProof.Rows L2 Dn Pg
def t1 : List Int := [3, 3, 3, 3]
def c1 : List Cord := [(0, 2, 1, 3, 1), (0, 1, 2, 3, 1), (1, 1, 3, 3, 1), (2, 1, 3, 3, 1)]
def t2 : List Int := [3, 3, 3]
def c2 : List Cord := [(0, 2, 1, 3, 1), (1, 2, 2, 3, 1), (1, 1, 2, 2, 1)]
def t3 : List Int := [5, 5, 2]
def c3 : List Cord := [(0, 4, 1, 5, 1), (0, 3, 1, 1, 1), (1, 2, 2, 2, 1)]
theorem h1 : Hs t1 c1 := hs_by (by decide +kernel)
theorem h2 : Hs t2 c2 := hs_by (by decide +kernel)
theorem h3 : Hs t3 c3 := hs_by (by decide +kernel)
theorem ways {by_ : Int} (b0 : 0 ≤ by_) (b1 : by_ ≤ 999999) : p__law_ways_right (.int by_) = some (.bool true) := by
  have d : ∀ x : Int, 0 ≤ x → x < 4 → p_darkening (houseD t1 c1) (lightsD [(0, by_)]) (.int x) = some (fewD (fewE t1 c1 [(0, 0)] x false)) := fun x x0 x1 => by
    rw [darkening_eq h1 (ls_one (by decide) (by decide) b0 (by omega)) x0 (by simpa [t1] using x1), few_one b0 h1 (by decide) (by decide +kernel)]
  have g : p_lighting (houseD t1 c1) (lightsD [(0, by_)]) (.int 3) = some (fewD (fewE t1 c1 [(0, 0)] 3 true)) := by
    rw [lighting_eq h1 (ls_one (by decide) (by decide) b0 (by omega)) (by decide) (by decide), few_one b0 h1 (by decide) (by decide +kernel)]
  have d0 : p_darkening (houseD t1 c1) (lightsD []) (.int 3) = some (fewD (fewE t1 c1 [] 3 false)) := by
    rw [darkening_eq h1 ls_bare (by decide) (by decide), few_now h1 (by decide) (by decide +kernel)]
  have g0 : p_lighting (houseD t1 c1) (lightsD []) (.int 3) = some (fewD (fewE t1 c1 [] 3 true)) := by
    rw [lighting_eq h1 ls_bare (by decide) (by decide), few_now h1 (by decide) (by decide +kernel)]
  have n1 : p_darkening (houseD t2 c2) (lightsD [(0, by_)]) (.int 2) = some (fewD (fewE t2 c2 [(0, 0)] 2 false)) := by
    rw [darkening_eq h2 (ls_one (by decide) (by decide) b0 (by omega)) (by decide) (by decide), few_one b0 h2 (by decide) (by decide +kernel)]
  have l2 : Ls t2 [(0, by_), (2, 0)] := ⟨⟨by simp, fun q hq => by
    rcases List.mem_cons.mp hq with rfl | hq
    · exact ⟨Int.le_refl _, by show (0:Int) < 3; decide, b0, by show by_ ≤ 1000000; omega⟩
    · rw [List.mem_singleton.mp hq]; decide⟩, by simp⟩
  have n2 : p_darkening (houseD t2 c2) (lightsD [(0, by_), (2, 0)]) (.int 2) = some .none := by
    rw [darkening_eq h2 l2 (by decide) (by decide)]
    have : fewest t2 c2 [(0, by_), (2, 0)] 2 false = none := by
      refine fewest_first.uniq (o' := none) fun is _ => ?_
      simp only [lit_light (hs_leave h2) l2 (x := 2) (b := 0) (by decide) (by decide) (by simp)]
      rfl
    rw [this]
    rfl
  have w : p_without (houseD t1 c1) (intsD [0, 2]) = some (houseD t1 (leave c1 [0, 2])) := without_sub h1 (by decide)
  have v1 : fewE t1 c1 [(0, 0)] 3 false = some [0, 1] := by decide +kernel
  have v2 : fewE t1 c1 [(0, 0)] 0 false = none := by decide +kernel
  have v3 : fewE t1 c1 [(0, 0)] 1 false = some [0] := by decide +kernel
  have v4 : fewE t1 c1 [] 3 false = some [] := by decide +kernel
  have v5 : fewE t1 c1 [(0, 0)] 3 true = some [] := by decide +kernel
  have v6 : fewE t1 c1 [] 3 true = none := by decide +kernel
  have v7 : fewE t2 c2 [(0, 0)] 2 false = some [0] := by decide +kernel
  have d3 := d 3 (by decide) (by decide)
  have d1 := d 1 (by decide) (by decide)
  have dz := d 0 (by decide) (by decide)
  rw [v1] at d3
  rw [v2] at dz
  rw [v3] at d1
  rw [v4] at d0
  rw [v5] at g
  rw [v6] at g0
  rw [v7] at n1
  unfold p__law_ways_right q__law_ways_right
  have e1 : PyData.tuple [.tuple [.int 3, .int 3, .int 3, .int 3], .tuple [.tuple [.int 0, .int 2, .int 1, .int 3, .int 1], .tuple [.int 0, .int 1, .int 2, .int 3, .int 1], .tuple [.int 1, .int 1, .int 3, .int 3, .int 1], .tuple [.int 2, .int 1, .int 3, .int 3, .int 1]]] = houseD t1 c1 := rfl
  have e2 : PyData.tuple [.tuple [.int 3, .int 3, .int 3], .tuple [.tuple [.int 0, .int 2, .int 1, .int 3, .int 1], .tuple [.int 1, .int 2, .int 2, .int 3, .int 1], .tuple [.int 1, .int 1, .int 2, .int 2, .int 1]]] = houseD t2 c2 := rfl
  have e3 : PyData.tuple [.tuple [.int 0, .int by_]] = lightsD [(0, by_)] := rfl
  have e4 : PyData.tuple [] = lightsD [] := rfl
  have e5 : pAdd (lightsD [(0, by_)]) (.tuple [.tuple [.int 2, .int 0]]) = some (lightsD [(0, by_), (2, 0)]) := rfl
  have e6 : PyData.tuple [.int 0, .int 2] = intsD [0, 2] := rfl
  have d0' : p_darkening (houseD t1 c1) (.tuple []) (.int 3) = some (fewD (some [])) := d0
  have g0' : p_lighting (houseD t1 c1) (.tuple []) (.int 3) = some (fewD none) := g0
  have w' : p_without (houseD t1 c1) (.tuple [.int 0, .int 2]) = some (houseD t1 (leave c1 [0, 2])) := w
  simp only [Option.bind_some, e1, e2, e3, d3, dz, d1, d0', g, g0', n1, n2, e5, w']
  rfl
theorem set {by_ : Int} (b0 : 0 ≤ by_) (b1 : by_ < 2) : p__law_set_right (.int by_) = some (.bool true) := by
  have e1 : PyData.tuple [.tuple [.int 5, .int 5, .int 2], .tuple [.tuple [.int 0, .int 4, .int 1, .int 5, .int 1], .tuple [.int 0, .int 3, .int 1, .int 1, .int 1], .tuple [.int 1, .int 2, .int 2, .int 2, .int 1]]] = houseD t3 c3 := rfl
  have e3 : ∀ i b : Int, PyData.tuple [.tuple [.int i, .int b]] = lightsD [(i, b)] := fun _ _ => rfl
  have e4 : ∀ a b : Int, pAdd (.int a) (.int b) = some (.int (a + b)) := fun _ _ => rfl
  have one : ∀ i : Int, 0 ≤ i → i < 3 → ∀ b : Int, 0 ≤ b → b ≤ 20 → Ls t3 [(i, b)] := fun i i0 i1 b b0 b1 => ls_one i0 (by simpa [t3] using i1) b0 (by omega)
  have g : p_lighting (houseD t3 c3) (lightsD [(0, by_)]) (.int 2) = some (fewD (some [1])) := by
    rw [lighting_eq h3 (one _ (by decide) (by decide) _ b0 (by omega)) (by decide) (by decide), few_one b0 h3 (by decide) (by decide +kernel)]
    have : fewE t3 c3 [(0, 0)] 2 true = some [1] := by decide +kernel
    rw [this]
  have d : p_darkening (houseD t3 c3) (lightsD [(0, by_)]) (.int 2) = some (fewD (some [])) := by
    rw [darkening_eq h3 (one _ (by decide) (by decide) _ b0 (by omega)) (by decide) (by decide), few_one b0 h3 (by decide) (by decide +kernel)]
    have : fewE t3 c3 [(0, 0)] 2 false = some [] := by decide +kernel
    rw [this]
  have g' : p_lighting (houseD t3 c3) (lightsD [(1, by_ + 9)]) (.int 2) = some (fewD (some [])) := by
    rw [lighting_eq h3 (one _ (by decide) (by decide) _ (by omega) (by omega)) (by decide) (by decide), few_one (by omega) h3 (by decide) (by decide +kernel)]
    have : fewE t3 c3 [(1, 0)] 2 true = some [] := by decide +kernel
    rw [this]
  have d' : p_darkening (houseD t3 c3) (lightsD [(1, by_ + 9)]) (.int 2) = some (fewD (some [2])) := by
    rw [darkening_eq h3 (one _ (by decide) (by decide) _ (by omega) (by omega)) (by decide) (by decide), few_one (by omega) h3 (by decide) (by decide +kernel)]
    have : fewE t3 c3 [(1, 0)] 2 false = some [2] := by decide +kernel
    rw [this]
  have two : by_ = 0 ∨ by_ = 1 := by omega
  have cut : p_lit_by_cut (houseD t3 c3) (lightsD [(0, by_)]) = some (pairO (some (1, 2))) := by
    rw [lit_by_cut_eq h3 (one _ (by decide) (by decide) _ b0 (by omega))]
    rcases two with rfl | rfl
    · rw [byCut_now h3 (by decide +kernel)]
      have : byCutE t3 c3 [(0, 0)] = some (1, 2) := by decide +kernel
      rw [this]
    · rw [byCut_now h3 (by decide +kernel)]
      have : byCutE t3 c3 [(0, 1)] = some (1, 2) := by decide +kernel
      rw [this]
  have cut0 : p_lit_by_cut (houseD t3 c3) (.tuple []) = some (pairO none) := by
    refine (lit_by_cut_eq h3 ls_bare).trans ?_
    rw [byCut_now h3 (by decide +kernel)]
    have : byCutE t3 c3 [] = none := by decide +kernel
    rw [this]
  have dbl : Po.p_dark_by_light (houseD t3 c3) (lightsD [(0, by_)]) = some (pairO none) := by
    rw [dark_by_light_eq h3 (one _ (by decide) (by decide) _ b0 (by omega))]
    rcases two with rfl | rfl
    · rw [byLight_now h3 (by decide +kernel)]
      have : byLightE t3 c3 [(0, 0)] = none := by decide +kernel
      rw [this]
    · rw [byLight_now h3 (by decide +kernel)]
      have : byLightE t3 c3 [(0, 1)] = none := by decide +kernel
      rw [this]
  have db9 : Po.p_dark_by_light (houseD t3 c3) (lightsD [(1, by_ + 9)]) = some (pairO (some (0, 2))) := by
    rw [dark_by_light_eq h3 (one _ (by decide) (by decide) _ (by omega) (by omega))]
    rcases two with rfl | rfl
    · rw [byLight_now h3 (by decide +kernel)]
      have : byLightE t3 c3 [(1, 0 + 9)] = some (0, 2) := by decide +kernel
      rw [this]
    · rw [byLight_now h3 (by decide +kernel)]
      have : byLightE t3 c3 [(1, 1 + 9)] = some (0, 2) := by decide +kernel
      rw [this]
  have db1 : Po.p_dark_by_light (houseD t3 c3) (lightsD [(1, by_)]) = some (pairO (some (0, 2))) := by
    rw [dark_by_light_eq h3 (one _ (by decide) (by decide) _ b0 (by omega))]
    rcases two with rfl | rfl
    · rw [byLight_now h3 (by decide +kernel)]
      have : byLightE t3 c3 [(1, 0)] = some (0, 2) := by decide +kernel
      rw [this]
    · rw [byLight_now h3 (by decide +kernel)]
      have : byLightE t3 c3 [(1, 1)] = some (0, 2) := by decide +kernel
      rw [this]
  unfold p__law_set_right q__law_set_right
  simp only [Option.bind_some, e1, e3, e4, g, d, cut, cut0, dbl, db9, db1, g', d']
  rfl
theorem right : Right m_law := right_of fun ns hl => by
  unfold w_law v_law
  simp
  refine wo_range (by split <;> split <;> omega) (by split <;> split <;> omega) fun items hi => ⟨fun xs _ => ∀ x ∈ xs, ∃ i : Int, x = .int i ∧ 0 ≤ i ∧ i ≤ 3, fun x hx => ?_, fun x xs _ hJ => ?_⟩
  · obtain ⟨i, h1, h2, h3⟩ := hi x hx
    exact ⟨i, h1, h2, by split at h3 <;> split at h3 <;> omega⟩
  obtain ⟨i, rfl, i0, i1⟩ := hJ x List.mem_cons_self
  have hJ' : ∀ x ∈ xs, ∃ i : Int, x = .int i ∧ 0 ≤ i ∧ i ≤ 3 := fun y hy => hJ y (List.mem_cons_of_mem _ hy)
  refine ⟨⟨ns, i, rfl, rfl, i0, by omega, hl⟩, ?_⟩
  unfold v_law_1
  have ep : pPow (.int 10) (.int 6) = some (.int 1000000) := rfl
  simp only [Option.bind_some, ep, wo_some]
  unfold Ph.w_take
  refine ⟨1000000, rfl, by decide, by decide, fun v v0 v1 => ?_⟩
  simp only [ways v0 (by omega), wo_some, asB_bool, Bool.not_true, Bool.false_eq_true, if_false]
  refine ⟨2, rfl, by decide, by decide, fun v v0 v1 => ?_⟩
  simp only [set v0 v1, wo_some, asB_bool, Bool.not_true, Bool.false_eq_true, if_false]
  exact hJ'
end K38
set_option Elab.async false
set_option linter.all false
set_option maxRecDepth 100000
open PySem PySem.W PyProof.Rows
theorem R : Dn.Right K38.m_law := K38.right
set_option maxHeartbeats 0 in
theorem PySem.Challenge.cw_stubcords_k38_cuts_by_hand_and_by_names_holds : PySem.Challenge.rw_stubcords_k38_cuts_by_hand_and_by_names.Holds := by
  w_on; o_law; k_head; (case hw => w_witness2)
  k_fill
  refine Dn.walk_D (l := PySem.Challenge.rw_stubcords_k38_cuts_by_hand_and_by_names) (k := 12) (x := "_law_script") (m := K38.m_law) rfl rfl ⟨rfl, by decide, by decide⟩ (fun w h Y => PySem.W.kIn_of Y) ?F R
  case F =>
    intro w mg fa h KX G hmg
    refine' K38.all_mk KX G hmg ?a0 ?l0 ?c0 ?k0 ?a1 ?l1 ?c1 ?k1 ?a2 ?l2 ?c2 ?k2 ?a3 ?l3 ?c3 ?k3 ?a4 ?l4 ?c4 ?k4 ?a5 ?l5 ?c5 ?k5 ?a6 ?l6 ?c6 ?k6 ?a7 ?l7 ?c7 ?k7 ?a8 ?l8 ?c8 ?k8 ?a9 ?l9 ?c9 ?k9 ?a10 ?l10 ?c10 ?k10 ?a11 ?l11 ?c11 ?k11 ?a12 ?l12 ?c12 ?k12 ?a13 ?l13 ?c13 ?k13 ?a14 ?l14 ?c14 ?k14 ?a15 ?l15 ?c15 ?k15 ?a16 ?l16 ?c16 ?k16 ?a17 ?l17 ?c17 ?k17 ?a18 ?l18 ?c18 ?k18 ?a19 ?l19 ?c19 ?k19 ?a20 ?l20 ?c20 ?k20 ?a21 ?l21 ?c21 ?k21 ?a22 ?l22 ?c22 ?k22 ?a23 ?l23 ?c23 ?k23 ?a24 ?l24 ?c24 ?k24 ?a25 ?l25 ?c25 ?k25 ?a26 ?l26 ?c26 ?k26 ?a27 ?l27 ?c27 ?k27 ?a28 ?l28 ?c28 ?k28 ?a29 ?l29 ?c29 ?k29 ?a30 ?l30 ?c30 ?k30 ?a31 ?l31 ?c31 ?k31 ?a32 ?l32 ?c32 ?k32 ?a33 ?l33 ?c33 ?k33 ?a34 ?l34 ?c34 ?k34 ?a35 ?l35 ?c35 ?k35 ?q_MOST_CANDLES ?q_MOST_CORDS ?q_GREATEST ?q_BY_LIGHT ?z_abs ?z_all ?z_bool ?z_divmod ?z_enumerate ?z_int ?z_isinstance ?z_len ?z_list ?z_max ?z_min ?z_range ?z_tuple ?z_zip ?l_combinations ?l_heapify ?l_heappop ?l_heappush
    (case a0 => k_is); (case l0 => k_is); (case c0 => k_is); (case k0 => k_is); (case a1 => k_is); (case l1 => k_is); (case c1 => k_is); (case k1 => k_is); (case a2 => k_is); (case l2 => k_is); (case c2 => k_is); (case k2 => k_is); (case a3 => k_is); (case l3 => k_is); (case c3 => k_is); (case k3 => k_is); (case a4 => k_is); (case l4 => k_is); (case c4 => k_is); (case k4 => k_is); (case a5 => k_is); (case l5 => k_is); (case c5 => k_is); (case k5 => k_is); (case a6 => k_is); (case l6 => k_is); (case c6 => k_is); (case k6 => k_is); (case a7 => k_is); (case l7 => k_is); (case c7 => k_is); (case k7 => k_is); (case a8 => k_is); (case l8 => k_is); (case c8 => k_is); (case k8 => k_is); (case a9 => k_is); (case l9 => k_is); (case c9 => k_is); (case k9 => k_is); (case a10 => k_is); (case l10 => k_is); (case c10 => k_is); (case k10 => k_is); (case a11 => k_is); (case l11 => k_is); (case c11 => k_is); (case k11 => k_is); (case a12 => k_is); (case l12 => k_is); (case c12 => k_is); (case k12 => k_is); (case a13 => k_is); (case l13 => k_is); (case c13 => k_is); (case k13 => k_is); (case a14 => k_is); (case l14 => k_is); (case c14 => k_is); (case k14 => k_is); (case a15 => k_is); (case l15 => k_is); (case c15 => k_is); (case k15 => k_is); (case a16 => k_is); (case l16 => k_is); (case c16 => k_is); (case k16 => k_is); (case a17 => k_is); (case l17 => k_is); (case c17 => k_is); (case k17 => k_is); (case a18 => k_is); (case l18 => k_is); (case c18 => k_is); (case k18 => k_is); (case a19 => k_is); (case l19 => k_is); (case c19 => k_is); (case k19 => k_is); (case a20 => k_is); (case l20 => k_is); (case c20 => k_is); (case k20 => k_is); (case a21 => k_is); (case l21 => k_is); (case c21 => k_is); (case k21 => k_is); (case a22 => k_is); (case l22 => k_is); (case c22 => k_is); (case k22 => k_is); (case a23 => k_is); (case l23 => k_is); (case c23 => k_is); (case k23 => k_is); (case a24 => k_is); (case l24 => k_is); (case c24 => k_is); (case k24 => k_is); (case a25 => k_is); (case l25 => k_is); (case c25 => k_is); (case k25 => k_is); (case a26 => k_is); (case l26 => k_is); (case c26 => k_is); (case k26 => k_is); (case a27 => k_is); (case l27 => k_is); (case c27 => k_is); (case k27 => k_is); (case a28 => k_is); (case l28 => k_is); (case c28 => k_is); (case k28 => k_is); (case a29 => k_is); (case l29 => k_is); (case c29 => k_is); (case k29 => k_is); (case a30 => k_is); (case l30 => k_is); (case c30 => k_is); (case k30 => k_is); (case a31 => k_is); (case l31 => k_is); (case c31 => k_is); (case k31 => k_is); (case a32 => k_is); (case l32 => k_is); (case c32 => k_is); (case k32 => k_is); (case a33 => k_is); (case l33 => k_is); (case c33 => k_is); (case k33 => k_is); (case a34 => k_is); (case l34 => k_is); (case c34 => k_is); (case k34 => k_is); (case a35 => k_is); (case l35 => k_is); (case c35 => k_is); (case k35 => k_is); (case q_MOST_CANDLES => k_is); (case q_MOST_CORDS => k_is); (case q_GREATEST => k_is); (case q_BY_LIGHT => k_is); (case z_abs => k_is); (case z_all => k_is); (case z_bool => k_is); (case z_divmod => k_is); (case z_enumerate => k_is); (case z_int => k_is); (case z_isinstance => k_is); (case z_len => k_is); (case z_list => k_is); (case z_max => k_is); (case z_min => k_is); (case z_range => k_is); (case z_tuple => k_is); (case z_zip => k_is); (case l_combinations => k_is); (case l_heapify => k_is); (case l_heappop => k_is); (case l_heappush => k_is)
