import PyProof.Rows.All
import Wide.All
import OpenK.AllK
import Wide.FinOn
import HandS.ForMost
import HandS.IsInst
import HandS.OwnEq
import HandS.Walk
import HandS.Codes
import HandS.RaiseMore
import HandS.Style
import HandS.NoneIn
import HandS.Rev
import PySem.Challenge.RW_eachworkread_k02_books
set_option Elab.async false
set_option linter.all false
set_option maxRecDepth 100000
/-! What all laws share: heaps, the feed, readers and rows as data. -/
namespace Ew
open PySem PySem.Spec PyProof.Rows L2
/-! ### heaps -/
/-- the feed at f: two ints -/
def FeedAt (H : Hp) (f : Addr) : Prop := ∃ d s : Int, H f = some (.lst [.int d, .int s])
/-- all but the feed is as it was -/
def Ext1 (f : Addr) (H H' : Hp) : Prop := (∀ b o, b ≠ f → H b = some o → H' b = some o) ∧ FeedAt H' f
theorem Ext1.refl {f : Addr} {H : Hp} (h : FeedAt H f) : Ext1 f H H := ⟨fun _ _ _ e => e, h⟩
theorem Ext1.trans {f : Addr} {H H1 H2 : Hp} (a : Ext1 f H H1) (b : Ext1 f H1 H2) : Ext1 f H H2 := ⟨fun c o n e => b.1 c o n (a.1 c o n e), b.2⟩
theorem Ext1.feed {f : Addr} {H H' : Hp} (a : Ext1 f H H') : FeedAt H' f := a.2
theorem Ext1.put {f : Addr} {H : Hp} {d s : Int} : Ext1 f H (upd H f (.lst [.int d, .int s])) := ⟨fun b o n e => by rw [upd_ne n]; exact e, d, s, upd_same⟩
theorem Ext1.new {f p : Addr} {H H1 : Hp} {o : HO} (a : Ext1 f H H1) (n : H1 p = none) : Ext1 f H (upd H1 p o) := by
  obtain ⟨d, s, e⟩ := a.2
  exact ⟨fun b u nb eb => by rw [upd_ne (ne_of_none (a.1 b u nb eb) n)]; exact a.1 b u nb eb, d, s, by rw [upd_ne (ne_of_none e n)]; exact e⟩
/-- an object that was not there may be written -/
theorem Ext1.own {f p : Addr} {H H1 : Hp} {o : HO} (a : Ext1 f H H1) (n : H p = none) (nf : p ≠ f) : Ext1 f H (upd H1 p o) := by
  obtain ⟨d, s, e⟩ := a.2
  refine ⟨fun b u nb eb => ?_, d, s, by rw [upd_ne (Ne.symm nf)]; exact e⟩
  have : b ≠ p := fun z => by rw [z, n] at eb; cases eb
  rw [upd_ne this]
  exact a.1 b u nb eb
theorem Ext1.same {f : Addr} {H H' : Hp} (h : FeedAt H f) (s : Same H H') : Ext1 f H H' := ⟨fun b o _ e => s b o e, let ⟨d, t, e⟩ := h; ⟨d, t, s _ _ e⟩⟩
theorem Ext1.free {f p : Addr} {H H' : Hp} (a : Ext1 f H H') (h : H' p = none) : H p = none := by
  cases q : H p with
  | none => rfl
  | some o =>
    by_cases e : p = f
    · subst e
      obtain ⟨d, s, z⟩ := a.2
      rw [z] at h; cases h
    · rw [a.1 _ _ e q] at h; cases h
theorem FeedAt.ne {H : Hp} {f p : Addr} (h : FeedAt H f) (n : H p = none) : p ≠ f := fun e => by
  obtain ⟨d, s, z⟩ := h
  rw [e, z] at n; cases n
section
variable {K : PySem.W.Frag} {f : Addr} {H H' : Hp}
theorem Ext1.sqT {t : Addr} {xs : List V} (a : Ext1 f H H') (hf : FeedAt H f) (h : SqT K H t xs) : SqT K H' t xs := by
  obtain ⟨d, s, z⟩ := hf
  rcases h with (h | ⟨o, h⟩) | h
  · exact .inl (.inl (a.1 _ _ (fun e => by rw [e, z] at h; cases h) h))
  · exact .inl (.inr ⟨o, a.1 _ _ (fun e => by rw [e, z] at h; cases h) h⟩)
  · exact .inr h
theorem Ext1.sqL {t : Addr} {xs : List V} (a : Ext1 f H H') (nf : t ≠ f) (h : SqL K H t xs) : SqL K H' t xs := by
  rcases h with (h | ⟨o, h⟩) | h
  · exact .inl (.inl (a.1 _ _ nf h))
  · exact .inl (.inr ⟨o, a.1 _ _ nf h⟩)
  · exact .inr h
theorem sameT {t : Addr} {xs : List V} (e : Same H H') (h : SqT K H t xs) : SqT K H' t xs := by
  rcases h with (h | ⟨o, h⟩) | h
  · exact .inl (.inl (e _ _ h))
  · exact .inl (.inr ⟨o, e _ _ h⟩)
  · exact .inr h
end
theorem sameU {H : Hp} {p : Addr} {o : HO} (h : H p = none) : Same H (upd H p o) := fun b x e => by
  rw [upd_ne (ne_of_none e h)]
  exact e
/-! ### rows and readers -/
/-- what is true of a set, a row: ascending, of numbers from 0 below n -/
def Asc (n : Int) (r : List Int) : Prop := r.Pairwise (· < ·) ∧ ∀ x ∈ r, 0 ≤ x ∧ x < n
/-- a tuple of ints -/
def RowT (K : PySem.W.Frag) (H : Hp) (v : V) (r : List Int) : Prop := ∃ t, v = .ref t ∧ SqT K H t (r.map V.int)
/-- a reader: limit, may -/
def RdT (K : PySem.W.Frag) (H : Hp) (v : V) (r : Int × List Int) : Prop := ∃ t m, v = .ref t ∧ SqT K H t [.int r.1, .ref m] ∧ SqT K H m (r.2.map V.int)
def RdOk (n : Int) (r : Int × List Int) : Prop := 0 ≤ r.1 ∧ r.1 ≤ 6 ∧ Asc n r.2
def RowOk (r : Int × List Int) (w : List Int) : Prop := w.Pairwise (· < ·) ∧ (∀ x ∈ w, x ∈ r.2) ∧ (w.length : Int) ≤ r.1
def RdL (K : PySem.W.Frag) (H : Hp) (a : Addr) (rs : List (Int × List Int)) : Prop := ∃ vs, SqL K H a vs ∧ Paired (RdT K H) vs rs
def RowL (K : PySem.W.Frag) (H : Hp) (a : Addr) (ws : List (List Int)) : Prop := ∃ vs, SqL K H a vs ∧ Paired (RowT K H) vs ws
section
variable {K : PySem.W.Frag} {f : Addr} {H H' : Hp}
theorem RowT.ext {v : V} {r : List Int} (a : Ext1 f H H') (hf : FeedAt H f) (h : RowT K H v r) : RowT K H' v r := let ⟨t, e, q⟩ := h; ⟨t, e, a.sqT hf q⟩
theorem RdT.ext {v : V} {r : Int × List Int} (a : Ext1 f H H') (hf : FeedAt H f) (h : RdT K H v r) : RdT K H' v r := let ⟨t, m, e, q, q2⟩ := h; ⟨t, m, e, a.sqT hf q, a.sqT hf q2⟩
theorem RowT.same {v : V} {r : List Int} (a : Same H H') (h : RowT K H v r) : RowT K H' v r := let ⟨t, e, q⟩ := h; ⟨t, e, sameT a q⟩
theorem RdT.same {v : V} {r : Int × List Int} (a : Same H H') (h : RdT K H v r) : RdT K H' v r := let ⟨t, m, e, q, q2⟩ := h; ⟨t, m, e, sameT a q, sameT a q2⟩
theorem RdL.ext {p : Addr} {rs : List (Int × List Int)} (a : Ext1 f H H') (hf : FeedAt H f) (nf : p ≠ f) (h : RdL K H p rs) : RdL K H' p rs := let ⟨vs, q, r⟩ := h; ⟨vs, a.sqL nf q, L2.Paired.mapP r fun _ _ z => z.ext a hf⟩
theorem RowL.ext {p : Addr} {rs : List (List Int)} (a : Ext1 f H H') (hf : FeedAt H f) (nf : p ≠ f) (h : RowL K H p rs) : RowL K H' p rs := let ⟨vs, q, r⟩ := h; ⟨vs, a.sqL nf q, L2.Paired.mapP r fun _ _ z => z.ext a hf⟩
theorem RdL.same {p : Addr} {rs : List (Int × List Int)} (a : Same H H') (h : RdL K H p rs) : RdL K H' p rs := let ⟨vs, q, r⟩ := h; ⟨vs, a.seq q, L2.Paired.mapP r fun _ _ z => z.same a⟩
theorem RowL.same {p : Addr} {rs : List (List Int)} (a : Same H H') (h : RowL K H p rs) : RowL K H' p rs := let ⟨vs, q, r⟩ := h; ⟨vs, a.seq q, L2.Paired.mapP r fun _ _ z => z.same a⟩
end
section
variable {K : PySem.W.Frag} {H : Hp} {D : Addr} {xs : List V} {o : HO}
/-- a list is written: tuples stand -/
theorem sqT_upd {t : Addr} {ys : List V} (e : H D = some (.lst xs)) (h : SqT K H t ys) : SqT K (upd H D o) t ys := by
  rcases h with (h | ⟨o', h⟩) | h
  · exact .inl (.inl (by rw [upd_ne (fun z => by rw [z, e] at h; cases h)]; exact h))
  · exact .inl (.inr ⟨o', by rw [upd_ne (fun z => by rw [z, e] at h; cases h)]; exact h⟩)
  · exact .inr h
theorem RowT.upd {v : V} {r : List Int} (e : H D = some (.lst xs)) (h : RowT K H v r) : RowT K (upd H D o) v r := let ⟨t, a, q⟩ := h; ⟨t, a, sqT_upd e q⟩
theorem RdT.upd {v : V} {r : Int × List Int} (e : H D = some (.lst xs)) (h : RdT K H v r) : RdT K (upd H D o) v r := let ⟨t, m, a, q, q2⟩ := h; ⟨t, m, a, sqT_upd e q, sqT_upd e q2⟩
end
theorem Paired.at1 {α β : Type} {R : α → β → Prop} : ∀ {xs : List α} {ys : List β} {i : Nat} {x : α}, Paired R xs ys → xs[i]? = some x → ∃ y, ys[i]? = some y ∧ R x y
  | _, _, _, _, .nil, e => by simp at e
  | _, _, 0, _, .cons r _, e => by simp at e; subst e; exact ⟨_, rfl, r⟩
  | _, _, i + 1, x, .cons _ t, e => by
    obtain ⟨u, h1, h2⟩ := Paired.at1 (i := i) (x := x) t (by simpa using e)
    exact ⟨u, by simpa using h1, h2⟩
theorem Paired.at2 {α β : Type} {R : α → β → Prop} : ∀ {xs : List α} {ys : List β} {i : Nat} {y : β}, Paired R xs ys → ys[i]? = some y → ∃ x, xs[i]? = some x ∧ R x y
  | _, _, _, _, .nil, e => by simp at e
  | _, _, 0, _, .cons r _, e => by simp at e; subst e; exact ⟨_, rfl, r⟩
  | _, _, i + 1, x, .cons _ t, e => by
    obtain ⟨u, h1, h2⟩ := Paired.at2 (i := i) (y := x) t (by simpa using e)
    exact ⟨u, by simpa using h1, h2⟩
theorem Paired.snoc {α β : Type} {R : α → β → Prop} : ∀ {xs : List α} {ys : List β} {x : α} {y : β}, Paired R xs ys → R x y → Paired R (xs ++ [x]) (ys ++ [y])
  | _, _, _, _, .nil, h => .cons h .nil
  | _, _, _, _, .cons r t, h => .cons r (Paired.snoc t h)
/-! ### what of the built-in names the text leaves as it is -/
structure Bi (mg : Str → Option Value) : Prop where
  len : mg "len" = none
  range : mg "range" = none
  list : mg "list" = none
  tuple : mg "tuple" = none
  int : mg "int" = none
  bool : mg "bool" = none
  abs : mg "abs" = none
  max : mg "max" = none
  min : mg "min" = none
  sorted : mg "sorted" = none
  enumerate : mg "enumerate" = none
  isinstance : mg "isinstance" = none
  all : mg "all" = none
  sum : mg "sum" = none
  zip : mg "zip" = none
  repr : mg "repr" = none
theorem take_more {α : Type} : ∀ {l : List α} {i : Nat} {x : α}, l[i]? = some x → l.take (i + 1) = l.take i ++ [x]
  | [], i, x, h => by simp at h
  | a :: l, 0, x, h => by
    have e : a = x := Option.some.inj h
    subst e
    rfl
  | a :: l, i + 1, x, h => by
    have ih := take_more (l := l) (i := i) (x := x) h
    show a :: l.take (i + 1) = a :: l.take i ++ [x]
    rw [ih]
    rfl
theorem szL {n : Nat} (h : n ≤ 100000) : n ≤ sizeLine := Nat.le_trans h (by decide)
theorem szl {n : Nat} (h : n ≤ 100000) : n < sizeLine := Nat.lt_of_le_of_lt h (by decide)
end Ew
namespace Ew
open PySem PySem.Spec PyProof.Rows L2
/-! ### rows and readers as data -/
section
variable {α : Type} (g : α → PyData)
theorem layAll_map (h : ∀ x, PyData.canLay0 (g x) = true) : ∀ l : List α, PyData.canLayAll0 (l.map g) = true
  | [] => rfl
  | x :: l => by
    show (PyData.canLay0 (g x) && PyData.canLayAll0 (l.map g)) = true
    rw [h x, layAll_map h l]
    rfl
theorem depAll_map {n : Nat} (h : ∀ x, PyData.depth (g x) ≤ n) : ∀ l : List α, PyData.depthAll (l.map g) ≤ n
  | [] => Nat.zero_le _
  | x :: l => by
    show max (PyData.depth (g x)) (PyData.depthAll (l.map g)) ≤ n
    exact Nat.max_le.mpr ⟨h x, depAll_map h l⟩
theorem eqvAll_inj [DecidableEq α] (h : ∀ x y, PyData.eqv (g x) (g y) = decide (x = y)) : ∀ xs ys : List α, PyData.eqvAll (xs.map g) (ys.map g) = decide (xs = ys)
  | [], [] => by simp [PyData.eqvAll]
  | [], _ :: _ => by simp [PyData.eqvAll]
  | _ :: _, [] => by simp [PyData.eqvAll]
  | x :: xs, y :: ys => by
    show (PyData.eqv (g x) (g y) && PyData.eqvAll (xs.map g) (ys.map g)) = _
    rw [h x y, eqvAll_inj h xs ys]
    by_cases e1 : x = y
    · subst e1
      by_cases e2 : xs = ys
      · subst e2; simp
      · simp [e2]
    · simp [e1]
end
def dI (l : List Int) : PyData := .list (l.map .int)
def dT (l : List Int) : PyData := .tuple (l.map .int)
def dR (r : Int × List Int) : PyData := .tuple [.int r.1, dT r.2]
def dRs (rs : List (Int × List Int)) : PyData := .list (rs.map dR)
def dWs (ws : List (List Int)) : PyData := .list (ws.map dT)
theorem eqv_int (x y : Int) : PyData.eqv (.int x) (.int y) = decide (x = y) := by
  simp [PyData.eqv]
  by_cases h : x = y <;> simp [h]
theorem eqv_dT (x y : List Int) : PyData.eqv (dT x) (dT y) = decide (x = y) := by
  show PyData.eqvAll (x.map .int) (y.map .int) = _
  exact eqvAll_inj _ eqv_int x y
theorem eqv_dI (x y : List Int) : PyData.eqv (dI x) (dI y) = decide (x = y) := by
  show PyData.eqvAll (x.map .int) (y.map .int) = _
  exact eqvAll_inj _ eqv_int x y
theorem eqv_dR (x y : Int × List Int) : PyData.eqv (dR x) (dR y) = decide (x = y) := by
  show PyData.eqvAll [.int x.1, dT x.2] [.int y.1, dT y.2] = _
  show (PyData.eqv (.int x.1) (.int y.1) && (PyData.eqv (dT x.2) (dT y.2) && true)) = _
  rw [eqv_int, eqv_dT]
  obtain ⟨a, b⟩ := x
  obtain ⟨c, d⟩ := y
  by_cases h1 : a = c <;> by_cases h2 : b = d <;> simp [h1, h2]
theorem eqv_dRs (x y : List (Int × List Int)) : PyData.eqv (dRs x) (dRs y) = decide (x = y) := by
  show PyData.eqvAll (x.map dR) (y.map dR) = _
  exact eqvAll_inj _ eqv_dR x y
theorem eqv_dWs (x y : List (List Int)) : PyData.eqv (dWs x) (dWs y) = decide (x = y) := by
  show PyData.eqvAll (x.map dT) (y.map dT) = _
  exact eqvAll_inj _ eqv_dT x y
theorem lay_dT (l : List Int) : PyData.canLay0 (dT l) = true := layAll_map PyData.int (fun _ => rfl) l
theorem dep_dT (l : List Int) : PyData.depth (dT l) ≤ 1 := Nat.succ_le_succ (depAll_map PyData.int (n := 0) (fun _ => Nat.le_refl _) l)
theorem lay_dR (r : Int × List Int) : PyData.canLay0 (dR r) = true := by
  show (true && (PyData.canLay0 (dT r.2) && true)) = true
  rw [lay_dT]
  rfl
theorem dep_dR (r : Int × List Int) : PyData.depth (dR r) ≤ 2 := by
  show max 0 (max (PyData.depth (dT r.2)) 0) + 1 ≤ 2
  have := dep_dT r.2
  omega
theorem shp {d : PyData} {n : Nat} (h1 : PyData.canLay0 d = true) (h2 : PyData.depth d ≤ n) (h3 : n ≤ 64) : SeqAt.shaped d = true := by
  unfold SeqAt.shaped
  rw [h1, decide_eq_true (Nat.le_trans h2 h3)]
  rfl
theorem shp_dT (l : List Int) : SeqAt.shaped (dT l) = true := shp (lay_dT l) (dep_dT l) (by decide)
theorem shp_dI (l : List Int) : SeqAt.shaped (dI l) = true := shp (layAll_map PyData.int (fun _ => rfl) l) (Nat.succ_le_succ (depAll_map PyData.int (n := 0) (fun _ => Nat.le_refl _) l)) (n := 1) (by decide)
theorem shp_dRs (rs : List (Int × List Int)) : SeqAt.shaped (dRs rs) = true := shp (layAll_map dR lay_dR rs) (Nat.succ_le_succ (depAll_map dR dep_dR rs)) (n := 3) (by decide)
theorem shp_dWs (ws : List (List Int)) : SeqAt.shaped (dWs ws) = true := shp (layAll_map dT lay_dT ws) (Nat.succ_le_succ (depAll_map dT dep_dT ws)) (n := 2) (by decide)
section
variable {K : PySem.W.Frag} {H : Hp}
theorem dpAll_ints : ∀ l : List Int, DpAll K H (l.map V.int) (l.map PyData.int)
  | [] => .nil
  | _ :: l => .cons (.int _) (dpAll_ints l)
theorem dpAll_map {α : Type} {R : V → α → Prop} {g : α → PyData} (h : ∀ v a, R v a → Dp K H v (g a)) : ∀ {vs : List V} {as : List α}, Paired R vs as → DpAll K H vs (as.map g)
  | _, _, .nil => .nil
  | _, _, .cons r t => .cons (h _ _ r) (dpAll_map h t)
theorem dp_dI {a : Addr} {l : List Int} (h : SqL K H a (l.map V.int)) : Dp K H (.ref a) (dI l) := .lst h (dpAll_ints l)
theorem dp_dT {v : V} {l : List Int} (h : RowT K H v l) : Dp K H v (dT l) := let ⟨_, e, q⟩ := h; e ▸ .tup q (dpAll_ints l)
theorem dp_dR {v : V} {r : Int × List Int} (h : RdT K H v r) : Dp K H v (dR r) := let ⟨_, _, e, q, q2⟩ := h; e ▸ .tup q (.cons (.int _) (.cons (dp_dT ⟨_, rfl, q2⟩) .nil))
theorem dp_dRs {a : Addr} {us : List V} {rs : List (Int × List Int)} (h : SqL K H a us) (p : Paired (RdT K H) us rs) : Dp K H (.ref a) (dRs rs) := .lst h (dpAll_map (g := dR) (fun _ _ z => dp_dR z) p)
theorem dp_dWs {a : Addr} {us : List V} {ws : List (List Int)} (h : SqL K H a us) (p : Paired (RowT K H) us ws) : Dp K H (.ref a) (dWs ws) := .lst h (dpAll_map (g := dT) (fun _ _ z => dp_dT z) p)
end
/-! ### == and != by an own __eq__, of anything -/
section
variable {prog : Program} {w : World} {A : Around} {E : Value → Shared → Prop}
/-- the type of a value, looked at -/
theorem looksT {X : Cx} {pins : List (Addr × Obj)} {σ : L2.St} {H : Hp} {s : Shared} {x : V} {u t : Value} (I : Inv X pins σ H s) (rx : RelV x u) (ty : TyX X.K H x t) : PySem.W.Looks (model X.prog X.w) s.heap (typeOf u) t := by
  have one : ∀ (a : Addr) (o : Obj), s.heap.get? a = some o → o.cls = t → PySem.W.Looks (model X.prog X.w) s.heap (typeOf (.ref a)) t := fun a o ho hc A Q E s' k q => wpAny_typeOf_ref (k _ _ ho) (by rw [hc]; exact q)
  cases ty with
  | base b =>
    cases b with
    | non => cases (show u = Value.none from rx); exact fun A Q E s' k q => wpAny_pure q
    | bl y => cases (show u = Value.bool y from rx); exact fun A Q E s' k q => wpAny_pure q
    | int i => obtain ⟨t, q⟩ := (show ∃ t, u = Value.int i t from rx); cases q; exact fun A Q E s' k q => wpAny_pure q
    | str y => obtain ⟨t, q⟩ := (show ∃ t, u = Value.str y t from rx); cases q; exact fun A Q E s' k q => wpAny_pure q
    | flt y => obtain ⟨t, q⟩ := (show ∃ t, u = Value.float y t from rx); cases q; exact fun A Q E s' k q => wpAny_pure q
    | @lst a xs ea =>
      cases (show u = Value.ref a from rx)
      obtain ⟨_, _, n, _, h1⟩ := (show ObjOk X.prog X.w H s.heap a (.lst xs) from I.hok a _ ea)
      exact one _ _ h1 rfl
    | @frz a ob xs ea =>
      cases (show u = Value.ref a from rx)
      obtain ⟨_, _, _, n, _, h1⟩ := (show ObjOk X.prog X.w H s.heap a (.frz ob (.lst xs)) from I.hok a _ ea)
      exact one _ _ h1 rfl
    | @tup a xs ea =>
      cases (show u = Value.ref a from rx)
      obtain ⟨_, _, _, o, h1, h2, _⟩ := (show ObjOk X.prog X.w H s.heap a (.tup xs) from I.hok a _ ea)
      exact one _ _ h1 h2
    | @dK a kvs ea =>
      cases (show u = Value.ref a from rx)
      obtain ⟨_, _, vs, _, o, es, ep, h1, h2, _⟩ := (show ObjOk X.prog X.w H s.heap a (.dK kvs) from I.hok a _ ea)
      exact one _ _ h1 h2.1
    | @dT a kvs ea =>
      cases (show u = Value.ref a from rx)
      obtain ⟨_, _, xs, _, o, es, ep, h1, h2, _⟩ := (show ObjOk X.prog X.w H s.heap a (.dT kvs) from I.hok a _ ea)
      exact one _ _ h1 h2.1
    | @ins a C dx fs ea cl ha hn htk hm =>
      cases (show u = Value.ref a from rx)
      obtain ⟨mA, O, _⟩ := ins_get I.hok ea
      obtain ⟨od, J, _⟩ := O.look
      exact J.type
  | byt y => obtain ⟨t, q⟩ := (show ∃ t, u = Value.bytes y t from rx); cases q; exact fun A Q E s' k q => wpAny_pure q
  | @set a S n ea =>
    cases (show u = Value.ref a from rx)
    obtain ⟨o, _, _, _, e, ex, _⟩ := I.hok a _ ea
    exact one _ _ e ex.1
  | @kList a o e c =>
    cases (show u = Value.ref a from rx)
    exact one _ _ (I.kIn a o e) c
  | @kTuple a o e c =>
    cases (show u = Value.ref a from rx)
    exact one _ _ (I.kIn a o e) c
  | @kDict a o e c =>
    cases (show u = Value.ref a from rx)
    exact one _ _ (I.kIn a o e) c
  | @fTuple a ob xs ea =>
    cases (show u = Value.ref a from rx)
    obtain ⟨_, _, _, _, o, h1, h2, _⟩ := (show ObjOk X.prog X.w H s.heap a (.frz ob (.tup xs)) from I.hok a _ ea)
    exact one _ _ h1 h2
  | @fDict a ob kvs ea =>
    cases (show u = Value.ref a from rx)
    obtain ⟨_, _, _, vs, _, o, es, ep, h1, h2, _⟩ := (show ObjOk X.prog X.w H s.heap a (.frz ob (.dK kvs)) from I.hok a _ ea)
    exact one _ _ h1 h2.1
end
/-- x == y, x an instance of the class at C with an own __eq__ whose promise is sp; y of a type that has no say -/
def rOwnEq (K : PySem.W.Frag) (C : Addr) (sp : Sp) (neg : Bool) : R2 := fun x y H Q => ∃ a dx fs t, x = .ref a ∧ H a = some (.ins C dx fs) ∧ TyX K H y t ∧ PySem.W.notFirst K C t = true ∧
  sp [x, y] H (fun v H' => ∃ b, v = .bl b ∧ Q (.bl (if neg then !b else b)) H') E0
section
variable {X : Cx} {n : Nat} {C f : Addr} {fd : FuncData} {ps : List Str} {sp : Sp}
theorem op_eqOwn (F : FnOk X.prog X.w X.K X.mg X.base CX0 n f fd ps sp) (hr : Room n X.A) (hs : PySem.W.findIn X.K (.ref C) "__eq__" = some (some (.ref f))) (hf : PySem.W.isFn X.K (.ref f) = true) (hb : Binds X.K fd ps []) :
    OpR X (compareOp .Eq) (rOwnEq X.K C sp false) := by
  intro pins s σ H x y v u Q I rx ry hq
  obtain ⟨a, dx, fs, t, rfl, ha, ty, hn, hsp⟩ := hq
  cases rx
  obtain ⟨mA, J, _⟩ := ins_get I.hok ha
  obtain ⟨od, J, _⟩ := J.look
  obtain ⟨m, hF⟩ := I.fr
  show wpAny (model X.prog X.w) X.A (richCompare .Eq (.ref a) u) (EP X pins σ Q) X.xe s
  refine PySem.W.cmp_K (op := .Eq) (tb := t) hr.units0 hF I.ok.mod.kin J (looksT I ry ty) hn hs hf ?_
  refine wpAny_mono (run_fn (vs := [V.ref a, y]) (us := [Value.ref a, u]) F hr hb .nil pass0 I (.cons rfl (.cons ry .nil)) hsp) (fun r s' hq => ?_) fun _ _ h => h
  obtain ⟨z, H', I', rz, b, ez, q⟩ := hq
  subst ez
  cases rz
  exact ⟨.bl b, H', I', rfl, q⟩
end
end Ew
namespace Ew
open PySem PySem.Spec PyProof.Rows L2
/-! ### x != y, x an instance of a class that has an __eq__ and no __ne__; len(x) by an own __len__ -/
theorem on_bind (self : Value) : bindSpecial (.builtin "object.__ne__") self = pure (.builtin "object.__ne__", [self]) :=
  (Slot.of (T := "object") (name := "__ne__") (owner := "object") (n := "__ne__") (by rw [typeLookup_type, builtinLookup_eq_fast]; kernel_rfl) (by decide +kernel) (by decide +kernel) (by decide +kernel)
    (.inl (by decide +kernel)) (by rw [isSubtype_type]; kernel_rfl)).bind self
/-- what the written part says of a class over object -/
def OverObject (K : PySem.W.Frag) (C : Addr) : Prop := ∃ nm q N bs bm sn sub ab col dd k0 k1 k2 k3 k5 hd nid, K.lookup C = some (excClassObj nm q C N bs bm hd sn sub ab col dd k0 k1 k2 k3 k5 nid) ∧ bm.contains (.type "object") = true
section
variable {prog : Program} {w : World} {A : Around} {E : Value → Shared → Prop} {s : Shared} {K : PySem.W.Frag} {x C L f : Addr} {h₀ : Heap} {m : Str → Option Value} {ox : Obj} {od : Option Obj} {b tb : Value}
open PySem.W PySem.Calls Builtin in
theorem objNe_K (hu : A.units < cLine) (X : K.In s.heap) (I : InstAt s.heap x ox C od) (hs : findIn K (.ref C) "__eq__" = some (some (.ref f))) (hf : isFn K (.ref f) = true) {Q : PySem.Fin → Shared → Prop}
    (hcall : wpAny (model prog w) A (call (.ref f) [.ref x, b]) (fun v s' => ∃ c, v = .bool c ∧ Q (.done (.ret (.bool (!c)))) s') E s) :
    wpAny (model prog w) A (Builtin.«object.__ne__» ⟨[.ref x, b], []⟩) Q E s := by
  unfold Builtin.«object.__ne__»
  repeat (first
    | with_reducible refine wpAny_cRoomFor hu ?_
    | (refine wpAny_bind (m := callSpecialIfBound? (.ref x) (Str.ofString "__eq__") [b])
        (ifBound_K X I hs hf (wpAny_mono hcall (fun r s' hr => by
          obtain ⟨c, rfl, hq⟩ := hr
          repeat (first | exact hq | exact wpAny_pure hq | exact wpAny_truthy_bool hq | (refine wpAny_bind (m := truthy (.bool _)) (wpAny_truthy_bool ?_)) | wp_step)) fun _ _ e => e)))
    | wp_step)
open PySem.W PySem.Calls Builtin in
theorem ifBound_B {M : Model} {name : Str} {id : String} {args : List Value} {Q : Option Value → Shared → Prop} (X : K.In s.heap) (I : InstAt s.heap x ox C od) (hs : findIn K (.ref C) name = some (some (.builtin id))) (hbind : ∀ self, bindSpecial (.builtin id) self = pure (.builtin id, [self]))
    (h : wpAny M A (call (.builtin id) (.ref x :: args)) (fun v => Q (some v)) E s) : wpAny M A (callSpecialIfBound? (.ref x) name args) Q E s := by
  simp only [callSpecialIfBound?, bindSpecialIfBound?, hbind]
  refine wpAny_holding (wpAny_bind (wpAny_bind (wpAny_bind (I.type.here ((looks_findIn X hs).here ?_)))))
  refine wpAny_bind (wpAny_askSetting (wpAny_ite ?_))
  have fin : wpAny M A (call (.builtin id) ([.ref x] ++ args) >>= fun v => pure (some v)) Q E s := wpAny_bind (wpAny_mono h (fun v s' h' => wpAny_pure h') fun _ _ h' => h')
  split
  · simp only [hbind]
    exact wpAny_bind (wpAny_pure (wpAny_pure (by exact fin)))
  · simp only [hbind]
    exact wpAny_tryCatch (wpAny_bind (wpAny_pure (wpAny_pure (by exact fin))))
open PySem.W PySem.Calls Builtin in
theorem ne_K' {Q : Value → Shared → Prop} (hu : A.units + 1 < cLine) (F : Fr h₀ L s.heap m) (X₀ : K.In h₀) (I : InstAt s.heap x ox C od) (hox : s.heap.get? x = some ox) (hoc : ox.cls = .ref C) (ho : OverObject K C) (hb : Looks (model prog w) s.heap (typeOf b) tb) (hn : notFirst K C tb = true)
    (hne : findIn K (.ref C) "__ne__" = some (some (.builtin "object.__ne__"))) (hs : findIn K (.ref C) "__eq__" = some (some (.ref f))) (hf : isFn K (.ref f) = true)
    (h : wpAny (model prog w) A.in1 (call (.ref f) [.ref x, b]) (fun v s' => ∃ c, v = .bool c ∧ Q (.bool (!c)) s') E s) : wpAny (model prog w) A (richCompare .NotEq (.ref x) b) Q E s := by
  have X := X₀.keeps F.keep
  obtain ⟨nm, q, N, bs, bm, sn, sub, ab, col, dd, k0, k1, k2, k3, k5, hd, nid, hC, hbm⟩ := ho
  have one : wpAny (model prog w) A (tryCompare (.ref x) "__ne__" b) (fun r s' => ∃ v, r = some v ∧ Q v s') E s := by
    unfold tryCompare
    refine wpAny_bind (ifBound_B X I hne on_bind ?_)
    obtain ⟨hp, g, d, t, os⟩ := s
    refine wpAny_call (codeAny_call_builtin (by decide +kernel) PySem.F.cmpEntry_ne (wpAny_check_slot_inst PySem.F.cmpKind_ne PySem.F.cmpSplit_ne (PySem.F.cmpArgs_ne _ _) hbm hox hoc (X _ _ hC)
        (objNe_K (A := A.in1) hu X I hs hf (wpAny_mono h (fun v s' hv => ?_) fun _ _ e => e))))
    obtain ⟨c, rfl, hq⟩ := hv
    first | exact ⟨c, rfl, wpAny_pure ⟨_, rfl, hq⟩⟩ | exact ⟨c, rfl, wpAny_pure (wpAny_pure ⟨_, rfl, hq⟩)⟩
  unfold richCompare
  simp only [oneThing_ref]
  refine wpAny_holding (wpAny_bind (wpAny_cRoomFor (Nat.lt_of_succ_lt hu) ?_))
  refine wpAny_bind (I.type.here (wpAny_bind (hb.here ?_)))
  split
  · rename_i q
    have e : subIn K tb (.ref C) = some false := by
      rcases Bool.or_eq_true_iff.mp hn with e | e
      · rw [beq_iff_eq.mp e] at q; simp at q
      · exact beq_iff_eq.mp e
    refine wpAny_bind ((looks_subIn X e).here ?_)
    simp only [Bool.false_eq_true, if_false]
    refine wpAny_bind (wpAny_mono one (fun r s' z => ?_) fun _ _ e => e)
    obtain ⟨v, rfl, hq⟩ := z
    exact wpAny_pure hq
  · refine wpAny_bind (wpAny_pure ?_)
    simp only [Bool.false_eq_true, if_false]
    refine wpAny_bind (wpAny_mono one (fun r s' z => ?_) fun _ _ e => e)
    obtain ⟨v, rfl, hq⟩ := z
    exact wpAny_pure hq
end
section
variable {X : Cx} {n : Nat} {C f : Addr} {fd : FuncData} {ps : List Str} {sp : Sp}
/-- the callee runs below a builtin -/
theorem run_in1 {pins : List (Addr × Obj)} {σ : L2.St} {H : Hp} {s : Shared} {Q : VK} {us : List Value} {vs : List V} (F : FnOk X.prog X.w X.K X.mg X.base CX0 n f fd ps sp) (hr : Room (n + 1) X.A) (hb : Binds X.K fd ps [])
    (I : Inv X pins σ H s) (r : Vals vs us) (h : sp vs H Q E0) : wpAny (model X.prog X.w) X.A.in1 (call (.ref f) us) (EP X pins σ Q) X.xe s := by
  have hl : us.length = ps.length := by rw [← r.length]; exact F.len _ _ _ _ h
  refine wpAny_call (codeAny_mono (F.run X.A.in1 X.stack s H ⟨us, []⟩ us vs Q E0 hr.in1 I.env0.in1 (by
    have := hb s us I.kIn (by simpa using hl)
    simpa using this) r h) fun r s' hq => ?_)
  cases r with
  | error e => exact False.elim hq
  | ok fl =>
    cases fl with
    | ret u => exact I.after hq
    | next => exact False.elim hq
    | brk => exact False.elim hq
    | cont => exact False.elim hq
theorem op_neOwn (F : FnOk X.prog X.w X.K X.mg X.base CX0 n f fd ps sp) (hr : Room (n + 1) X.A) (hs : PySem.W.findIn X.K (.ref C) "__eq__" = some (some (.ref f))) (hf : PySem.W.isFn X.K (.ref f) = true) (hb : Binds X.K fd ps [])
    (ho : OverObject X.K C) (hne : PySem.W.findIn X.K (.ref C) "__ne__" = some (some (.builtin "object.__ne__"))) : OpR X (compareOp .NotEq) (rOwnEq X.K C sp true) := by
  intro pins s σ H x y v u Q I rx ry hq
  obtain ⟨a, dx, fs, t, rfl, ha, ty, hn, hsp⟩ := hq
  cases rx
  obtain ⟨mA, J, _⟩ := ins_get I.hok ha
  obtain ⟨od, J, _⟩ := J.look
  obtain ⟨m, hF⟩ := I.fr
  obtain ⟨_, _, _, hget, _⟩ := (show ObjOk X.prog X.w H s.heap a (.ins C dx fs) from I.hok a _ ha)
  have hu := hr.units
  show wpAny (model X.prog X.w) X.A (richCompare .NotEq (.ref a) u) (EP X pins σ Q) X.xe s
  refine ne_K' (tb := t) (by omega) hF I.ok.mod.kin J hget rfl ho (looksT I ry ty) hn hne hs hf ?_
  refine wpAny_mono (run_in1 (vs := [V.ref a, y]) (us := [Value.ref a, u]) F hr hb I (.cons rfl (.cons ry .nil)) hsp) (fun r s' hq => ?_) fun _ _ h => h
  obtain ⟨z, H', I', rz, b, ez, q⟩ := hq
  subst ez
  cases rz
  exact ⟨b, rfl, .bl (!b), H', I', rfl, q⟩
/-- len(x), x an instance of the class at C with an own __len__ -/
theorem call_lenOwn (F : FnOk X.prog X.w X.K X.mg X.base CX0 n f fd ps sp) (hr : Room (n + 1) X.A) (hs : PySem.W.findIn X.K (.ref C) "__len__" = some (some (.ref f))) (hf : PySem.W.isFn X.K (.ref f) = true) (hb : Binds X.K fd ps []) :
    CallR X (.builtin "len") (fun xs H Q => ∃ a dx fs, xs = [.ref a] ∧ H a = some (.ins C dx fs) ∧ sp [.ref a] H (fun v H' => ∃ k : Int, v = .int k ∧ (0 ≤ k ∧ k < 2 ^ 63) ∧ Q (.int k) H') E0) := by
  intro pins s σ H xs us Q I r hq
  obtain ⟨a, dx, fs, rfl, ha, hsp⟩ := hq
  cases r with
  | cons r1 r2 =>
    cases r2
    cases r1
    obtain ⟨mA, J, _⟩ := ins_get I.hok ha
    obtain ⟨od, J, _⟩ := J.look
    obtain ⟨m, hF⟩ := I.fr
    refine PySem.W.len_K hF I.ok.mod.kin J hs hf ?_
    refine wpAny_mono (run_in1 (vs := [V.ref a]) (us := [Value.ref a]) F hr hb I (.cons rfl .nil) hsp) (fun r s' hq => ?_) fun _ _ h => h
    obtain ⟨z, H', I', rz, k, ez, hk, q⟩ := hq
    subst ez
    obtain ⟨t, rfl⟩ := rz
    exact ⟨hk, .int k, H', I'.tok _, ⟨_, rfl⟩, q⟩
end
end Ew
namespace Ew
open PySem PySem.Spec PyProof.Rows L2
section
variable {prog : Program} {w : World} {A : Around} {E : Value → Shared → Prop} {s : Shared}
open HT in
/-- the whole of a tuple, cut, is the tuple itself -/
theorem cut_whole {t sl : Addr} {items : Array Value} {vl vu : Value} {lo hi : Option Int} {Q : Value → Shared → Prop} (ht : IsTup s.heap t items) (hs : s.heap.IsSliceOf sl vl vu .none) (pl : IsPart vl lo) (pu : IsPart vu hi)
    (hw : sIx items.size 0 lo = 0 ∧ sIx items.size items.size hi = items.size) (h : Q (.ref t) s) : wpAny (model prog w) A (getItem (.ref t) (.ref sl)) Q E s := by
  obtain ⟨os, hos, hcs, hds⟩ := id hs
  have hTs : s.TypeIs (.ref sl) "slice" := ⟨os, hos, hcs⟩
  obtain ⟨e1, e2⟩ := hw
  unfold getItem
  try with_reducible refine wpAny_holding ?_
  first | refine wpAny_bind (wpAny_pure ?_) | skip
  refine wpAny_bind (wpAny_sequenceKey ht.typeIs (by decide) ?_)
  refine wpAny_bind (wpAny_callSpecial?_slot (name := Str.ofString "__getitem__") ht.typeIs PyProof.Rows.slot_tuple_getitem (wpAny_call_entry PyProof.Rows.slot_tuple_getitem ht.typeIs entry_tuple_getitem ?_ (args_tuple_getitem _ _)))
  show wpAny _ _ (Builtin.Tuple.tupleItemsOf (.ref t) >>= _) _ _ s
  refine wpAny_bind (tupleItemsOf_ ht (wpAny_bind (wpAny_typeOf hTs ?_)))
  rw [if_pos (by decide)]
  refine wpAny_bind (sliceApplied_gen hs pl pu ?_)
  have hyes : ((((sIx items.size 0 lo : Nat) : Int) == 0 && (1 : Int) == 1 && (sIx items.size items.size hi - sIx items.size 0 lo) == items.size) = true) := by
    rw [e1, e2]
    simp
  show wpAny _ _ (if ((((sIx items.size 0 lo : Nat) : Int) == 0 && (1 : Int) == 1 && (sIx items.size items.size hi - sIx items.size 0 lo) == items.size) = true) then _ else _) _ _ s
  rw [if_pos hyes]
  refine wpAny_bind ?_
  unfold Builtin.Tuple.tupleIsExact
  refine wpAny_bind (wpAny_typeOf ht.typeIs (wpAny_pure ?_))
  rw [if_pos (by decide)]
  refine wpAny_bind (wpAny_rule ?_)
  exact wpAny_pure ⟨_, rfl, wpAny_pure h⟩
end
section
variable {X : Cx}
def rSlW (K : PySem.W.Frag) : V → Option Int → Option Int → Hp → VK → Prop := fun x lo hi H Q => ∃ a xs, x = .ref a ∧ SqT K H a xs ∧ (HT.sIx xs.length 0 lo = 0 ∧ HT.sIx xs.length xs.length hi = xs.length) ∧ Q (.ref a) H
theorem sl_tupW : SlR X (rSlW X.K) := by
  intro pins s σ H x v vl vu lo hi sl Q I rx hs pl pu h
  obtain ⟨a, xs, rfl, hx, hw, q⟩ := h
  cases rx
  obtain ⟨its, r, ht, hz⟩ := I.tuple hx
  have hl : its.toArray.size = xs.length := by rw [List.size_toArray]; exact r.length.symm
  exact ⟨"tuple", _, PyProof.Rows.slot_tuple_getitem.lookup, ht.typeIs, cut_whole ht hs pl pu (by rw [hl]; exact hw) ⟨.ref a, H, I, rfl, q⟩⟩
end
section
variable {X : Cx}
theorem cut_all {xs : List V} {lo hi : Option Int} (h : HT.sIx xs.length 0 lo = 0 ∧ HT.sIx xs.length xs.length hi = xs.length) : cutV xs lo hi = xs := by
  unfold cutV
  rw [h.1, h.2, List.drop_zero, Nat.sub_zero, List.take_length]
/-- t[lo:hi], the whole too -/
def rSlA (K : PySem.W.Frag) : V → Option Int → Option Int → Hp → VK → Prop := fun x lo hi H Q => ∃ a xs, x = .ref a ∧ SqT K H a xs ∧ ∀ p H', Same H H' → SqT K H' p (cutV xs lo hi) → Q (.ref p) H'
theorem sl_tupA : SlR X (rSlA X.K) := by
  intro pins s σ H x v vl vu lo hi sl Q I rx hs pl pu h
  obtain ⟨a, xs, rfl, hx, q⟩ := h
  by_cases hw : HT.sIx xs.length 0 lo = 0 ∧ HT.sIx xs.length xs.length hi = xs.length
  · exact sl_tupW pins s σ H _ v vl vu lo hi sl Q I rx hs pl pu ⟨a, xs, rfl, hx, hw, q a H (Same.refl H) (by rw [cut_all hw]; exact hx)⟩
  · exact sl_tup pins s σ H _ v vl vu lo hi sl Q I rx hs pl pu ⟨a, xs, rfl, hx, hw, fun p np => q p _ (sameU np) (.inl (.inl upd_same))⟩
end
theorem cut_from (xs : List V) (k : Nat) : cutV xs (some (k : Int)) none = xs.drop k := by
  unfold cutV
  rw [HT.sIx_nat, HT.sIx_none]
  rcases Nat.le_total k xs.length with h | h
  · rw [Nat.min_eq_left h, List.take_of_length_le (by rw [List.length_drop]; omega)]
  · rw [Nat.min_eq_right h, List.drop_of_length_le h, Nat.sub_self]
    simp
theorem cut_to (xs : List V) (k : Nat) : cutV xs none (some (k : Int)) = xs.take k := by
  unfold cutV
  rw [HT.sIx_nat, HT.sIx_none, List.drop_zero, Nat.sub_zero]
  rcases Nat.le_total k xs.length with h | h
  · rw [Nat.min_eq_left h]
  · rw [Nat.min_eq_right h, List.take_of_length_le h, List.take_length]
theorem Paired.drop {α β : Type} {R : α → β → Prop} : ∀ {xs : List α} {ys : List β} (n : Nat), Paired R xs ys → Paired R (xs.drop n) (ys.drop n)
  | _, _, 0, h => h
  | _, _, _ + 1, .nil => .nil
  | _, _, n + 1, .cons _ t => Paired.drop n t
theorem Paired.app {α β : Type} {R : α → β → Prop} : ∀ {xs : List α} {ys : List β} {us : List α} {ws : List β}, Paired R xs ys → Paired R us ws → Paired R (xs ++ us) (ys ++ ws)
  | _, _, _, _, .nil, h => h
  | _, _, _, _, .cons r t, h => .cons r (Paired.app t h)
theorem Paired.rev {α β : Type} {R : α → β → Prop} : ∀ {xs : List α} {ys : List β}, Paired R xs ys → Paired R xs.reverse ys.reverse
  | _, _, .nil => .nil
  | x :: xs, y :: ys, .cons r t => by
    rw [List.reverse_cons, List.reverse_cons]
    exact Paired.app (Paired.rev t) (.cons r .nil)
end Ew
namespace Ew
open PySem PySem.Spec PyProof.Rows L2
/-! ### the text by places -/
def top (i : Nat) : Stmt := PySem.Challenge.pw_eachworkread_k02_books.main.body.getD i (.Pass ⟨0, 0, 0, 0⟩)
abbrev sFeed : Stmt := (top 15)
abbrev sTake : Stmt := (top 16)
abbrev sPick : Stmt := (top 17)
/-! ### promises -/
def spFeed (K : PySem.W.Frag) : Sp := fun vs H Q _ => ∃ (a : Addr) (ns : List Int) (k : Int), vs = [.ref a, .int k] ∧ SqL K H a (ns.map V.int) ∧ ns.length ≤ 63 ∧ 0 ≤ k ∧ k < 10 ∧
  ∀ H' p, Same H H' → H p = none → FeedAt H' p → Q (.ref p) H'
def spTake : Sp := fun vs H Q _ => ∃ (f : Addr) (m : Int), vs = [.ref f, .int m] ∧ FeedAt H f ∧ 0 < m ∧ m < 1000 ∧ ∀ H' r, Ext1 f H H' → 0 ≤ r → r < m → Q (.int r) H'
def spPick (K : PySem.W.Frag) : Sp := fun vs H Q _ => ∃ (f l : Addr) (xs : List V), vs = [.ref f, .ref l] ∧ FeedAt H f ∧ SqL K H l xs ∧ l ≠ f ∧ 0 < xs.length ∧ xs.length < 1000 ∧ ∀ H' v, Ext1 f H H' → v ∈ xs → Q v H'
section
variable {P : Program} {w : World} {K : PySem.W.Frag} {mg : Str → Option Value} {base : Heap}
theorem scFeed : FnScope ["script", "k", "seed", "digits"] ["script", "k"] (defScope sFeed) := ⟨rfl, rfl, rfl, by decide +kernel, rfl, by decide +kernel, by decide +kernel⟩
theorem cut_le (xs : List V) (a b : Option Int) : (cutV xs a b).length ≤ xs.length := by
  unfold cutV
  rw [List.length_take, List.length_drop]
  omega
theorem ok_feed {f : Addr} {fd : FuncData} (F : Fun K "_law_feed" "_law_feed" sFeed f fd) (B : Bi mg) : FnOk P w K mg base CX0 1 f fd ["script", "k"] (spFeed K) := by
  refine F.ok scFeed (fun vs H Q E h => ?_) (fun cdv A outer s H vs Q E hr h => ?_)
  · obtain ⟨a, ns, k, rfl, _⟩ := h
    rfl
  · obtain ⟨a, ns, k, rfl, hS, hl, h0, h10, q⟩ := h
    refine ⟨_, pss_cons (ps_set (i := 2) scFeed.nd rfl (.inl rfl)
        (pe_ix ix_list (pe_op op_cat (pe_callTy call_list_of (by rfl) B.list (by decide +kernel) (pa_cons (pe_slice sl_list (pv 0) (po_some (pv 1)) (po_some (pe_op op_add (pv 1) pe_int))) pa_nil))
          (pe_lst (pa_cons (pe_op op_add (pe_op op_mul pe_int (pv 1)) pe_int) pa_nil))) pe_int (fun _ _ => rfl)))
      (pss_cons (ps_set (i := 3) scFeed.nd rfl (.inl rfl) (pe_callB (call_max2 rfl) (by rfl) B.max (by decide +kernel) (pa_cons pe_int (pa_cons
          (pe_op op_sub (pe_callB call_abs (by rfl) B.abs (by decide +kernel) (pa_cons (pv 2) pa_nil)) (pe_op op_pow pe_int pe_int)) pa_nil))))
      (pss_one (ps_ret (pe_lst (pa_cons (pv 3) (pa_cons (pe_op op_mod (pe_callTy call_int1 (by rfl) B.int (by decide +kernel) (pa_cons
          (pe_op op_add (pe_op op_add (pe_op op_mul (pe_op op_mod (pe_callTy call_int1 (by rfl) B.int (by decide +kernel) (pa_cons (pe_callB call_abs (by rfl) B.abs (by decide +kernel) (pa_cons (pv 2) pa_nil)) pa_nil)) pe_int) pe_int)
            (pe_op op_mul pe_int (pv 1))) pe_int) pa_nil)) pe_int) pa_nil)))))), ?_⟩
    refine ⟨_, rfl, _, rfl, k, rfl, _, rfl, _, _, rfl, rfl, _, rfl, a, _, rfl, hS, fun c nc => ?_⟩
    have s1 : Same H (upd H c (.lst (cutV (ns.map V.int) (some k) (some (k + 1))))) := sameU nc
    have hc : (cutV (ns.map V.int) (some k) (some (k + 1))).length ≤ 63 := Nat.le_trans (cut_le _ _ _) (by rw [List.length_map]; exact hl)
    have hint : ∀ v ∈ cutV (ns.map V.int) (some k) (some (k + 1)), ∃ z, v = V.int z := by
      intro v hv
      unfold cutV at hv
      have := List.mem_of_mem_drop (List.mem_of_mem_take hv)
      obtain ⟨z, _, e⟩ := List.mem_map.mp this
      exact ⟨z, e.symm⟩
    generalize cutV (ns.map V.int) (some k) (some (k + 1)) = cs at *
    refine ⟨c, _, rfl, .inl (.inl (.inl upd_same)), fun l nl => ?_⟩
    refine ⟨_, rfl, 71, k, rfl, rfl, .inl ⟨by decide, by decide⟩, _, _, rfl, rfl, (by show 1 ≤ sizeLine; decide), fun m nm => ?_⟩
    have nlm : l ≠ m := fun e => by rw [e] at nm; rw [← e, upd_same] at nm; cases nm
    refine ⟨l, m, cs, _, rfl, rfl, (by rw [upd_ne nlm]; exact upd_same), upd_same, (szL (by show cs.length + 1 ≤ _; omega)), fun r nr => ?_⟩
    have sA : Same H (upd (upd (upd H c (.lst cs)) l (.lst cs)) m (.lst [V.int (71 * k + 23)])) := s1.trans ((sameU nl).trans (sameU nm))
    obtain ⟨z, hz⟩ : ∃ z, (cs ++ [V.int (71 * k + 23)])[0]? = some (V.int z) := by
      cases cs with
      | nil => exact ⟨_, rfl⟩
      | cons x t =>
        obtain ⟨z, e⟩ := hint x (by simp)
        exact ⟨z, by rw [e]; rfl⟩
    refine ⟨r, _, 0, _, rfl, rfl, .inl (.inl upd_same), atI_nat (j := 0) hz, ?_⟩
    have sB : Same H (upd (upd (upd (upd H c (.lst cs)) l (.lst cs)) m (.lst [V.int (71 * k + 23)])) r (.lst (cs ++ [V.int (71 * k + 23)]))) := sA.trans (sameU nr)
    generalize upd (upd (upd (upd H c (.lst cs)) l (.lst cs)) m (.lst [V.int (71 * k + 23)])) r (.lst (cs ++ [V.int (71 * k + 23)])) = H2 at *
    refine ⟨_, rfl, z, rfl, 10, 18, rfl, rfl, ⟨by decide, by decide, by decide⟩, _, _, rfl, rfl, _, _, rfl, ?_⟩
    refine ⟨_, rfl, _, rfl, z, rfl, .inl ⟨_, rfl, _, _, rfl, rfl, (by show (0 : Int) < 1000003; decide), _, _, rfl, rfl, .inr ⟨by decide, by decide⟩, _, rfl, 31, k, rfl, rfl, .inl ⟨by decide, by decide⟩, _, _, rfl, rfl, _, _, rfl, rfl, .inl ⟨_, rfl, _, _, rfl, rfl, (by show (0 : Int) < 1000033; decide), (by show 2 ≤ sizeLine; decide), fun p np => ?_⟩⟩⟩
    exact q _ p (sB.trans (sameU np)) (sB.free np) ⟨_, _, upd_same⟩
theorem scTake : FnScope ["feed", "many", "digit"] ["feed", "many"] (defScope sTake) := ⟨rfl, rfl, rfl, by decide +kernel, rfl, by decide +kernel, by decide +kernel⟩
theorem ok_take {f : Addr} {fd : FuncData} (F : Fun K "_law_take" "_law_take" sTake f fd) (B : Bi mg) : FnOk P w K mg base CX0 1 f fd ["feed", "many"] spTake := by
  refine F.ok scTake (fun vs H Q E h => ?_) (fun cdv A outer s H vs Q E hr h => ?_)
  · obtain ⟨a, m, rfl, _⟩ := h
    rfl
  · obtain ⟨a, m, rfl, ⟨d, z, hF⟩, m0, m1, q⟩ := h
    refine ⟨_, pss_cons (ps_if (pt_cmpR op_gt (pe_ix ix_list (pv 0) pe_int (fun _ _ => rfl)) pe_int (nomark _))
        (pss_cons (ps_set (i := 2) scTake.nd rfl (.inl rfl) (pe_op op_mod (pe_callTy call_int1 (by rfl) B.int (by decide +kernel) (pa_cons (pe_ix ix_list (pv 0) pe_int (fun _ _ => rfl)) pa_nil)) (pv 1)))
        (pss_cons (ps_asg (pe_op op_fdiv (pe_ix ix_list (pv 0) pe_int (fun _ _ => rfl)) (pv 1)) (pg_sub (pv 0) pe_int set_list)) (pss_one (ps_ret (pv 2))))) pss_nil)
      (pss_cons (ps_asg (pe_op op_mod (pe_callTy call_int1 (by rfl) B.int (by decide +kernel) (pa_cons (pe_op op_add (pe_op op_mul (pe_ix ix_list (pv 0) pe_int (fun _ _ => rfl)) pe_int) pe_int) pa_nil)) pe_int) (pg_sub (pv 0) pe_int set_list))
      (pss_one (ps_ret (pe_op op_mod (pe_callTy call_int1 (by rfl) B.int (by decide +kernel) (pa_cons (pe_op op_fdiv (pe_ix ix_list (pv 0) pe_int (fun _ _ => rfl)) pe_int) pa_nil)) (pv 1))))), ?_⟩
    refine ⟨_, rfl, a, _, 0, .int d, rfl, rfl, .inl (.inl hF), rfl, _, _, rfl, rfl, _, rfl, ite2 (fun _ => ?_) (fun _ => ?_)⟩
    · refine ⟨_, rfl, a, _, 0, .int d, rfl, rfl, .inl (.inl hF), rfl, .inl ⟨_, rfl, _, rfl, d, m, rfl, rfl, m0, ?_⟩⟩
      refine ⟨_, rfl, a, _, 0, .int d, rfl, rfl, .inl (.inl hF), rfl, _, rfl, d, m, rfl, rfl, ⟨m0, by omega⟩, _, rfl, a, _, 0, 0, rfl, rfl, hF, rfl, _, rfl, ?_⟩
      exact q _ _ Ext1.put (Int.emod_nonneg _ (by omega)) (Int.emod_lt_of_pos _ m0)
    · refine ⟨_, rfl, a, _, 1, .int z, rfl, rfl, .inl (.inl hF), rfl, z, 69069, rfl, rfl, .inr ⟨by decide, by decide⟩, _, _, rfl, rfl, .inl ⟨_, rfl, _, _, rfl, rfl, (by show (0 : Int) < 4294967311; decide), _, rfl, a, _, 1, 1, rfl, rfl, hF, rfl, ?_⟩⟩
      refine ⟨_, rfl, a, _, 1, _, rfl, rfl, .inl (.inl upd_same), rfl, _, 65536, rfl, rfl, ⟨by decide, by decide⟩, .inl ⟨_, rfl, _, rfl, _, m, rfl, rfl, m0, ?_⟩⟩
      exact q _ _ Ext1.put (Int.emod_nonneg _ (by omega)) (Int.emod_lt_of_pos _ m0)
theorem scPick : FnScope ["feed", "some"] ["feed", "some"] (defScope sPick) := ⟨rfl, rfl, rfl, by decide +kernel, rfl, by decide +kernel, by decide +kernel⟩
theorem ok_pick {f fT : Addr} {fd fdT : FuncData} (F : Fun K "_law_pick" "_law_pick" sPick f fd) (FT : Fun K "_law_take" "_law_take" sTake fT fdT) (bT : Binds K fdT ["feed", "many"] []) (gT : mg "_law_take" = some (.ref fT)) (B : Bi mg) : FnOk P w K mg base CX0 2 f fd ["feed", "some"] (spPick K) := by
  have GT : FnOk P w K mg base CX0 1 fT fdT ["feed", "many"] spTake := ok_take FT B
  refine F.ok scPick (fun vs H Q E h => ?_) (fun cdv A outer s H vs Q E hr h => ?_)
  · obtain ⟨a, l, xs, rfl, _⟩ := h
    rfl
  · obtain ⟨a, l, xs, rfl, hF, hL, nl, x0, x1, q⟩ := h
    refine ⟨_, pss_one (ps_ret (pe_ix ix_list (pv 1) (pe_call GT hr (by rfl) gT FT.kp bT .nil pass0 (pa_cons (pv 0) (pa_cons (pe_callB call_len_seq (by rfl) B.len PySem.boot_len (pa_cons (pv 1) pa_nil)) pa_nil))) (fun _ _ => rfl))), ?_⟩
    refine ⟨_, rfl, _, rfl, _, rfl, l, xs, rfl, .inl hL, a, _, rfl, hF, (by omega), (by omega), fun H1 r e1 r0 r1 => ?_⟩
    obtain ⟨j, rfl⟩ : ∃ j : Nat, r = (j : Int) := ⟨r.toNat, by omega⟩
    have hj : j < xs.length := by omega
    exact ⟨l, xs, (j : Int), xs[j], rfl, rfl, e1.sqL nl hL, atI_nat (by simp [hj]), q _ _ e1 (List.getElem_mem _)⟩
end
end Ew
namespace Ew
open PySem PySem.Spec PyProof.Rows L2
abbrev sRow : Stmt := (top 18)
def spRow (K : PySem.W.Frag) : Sp := fun vs H Q _ => ∃ (f : Addr) (v : V) (r : Int × List Int), vs = [.ref f, v] ∧ FeedAt H f ∧ RdT K H v r ∧ 0 ≤ r.1 ∧ r.1 ≤ 6 ∧ r.2.Pairwise (· < ·) ∧ r.2.length ≤ 60 ∧
  ∀ H' p w, Ext1 f H H' → H p = none → H' p = some (.tup (w.map V.int)) → RowOk r w → Q (.ref p) H'
theorem perm_get {α : Type} {rs : List α} {k : Nat} (h : k < rs.length) : rs.Perm (rs[k] :: rs.eraseIdx k) := by
  induction rs generalizing k with
  | nil => simp at h
  | cons a l ih =>
    cases k with
    | zero => simp
    | succ k =>
      have h' : k < l.length := by simpa using h
      have := ih h'
      simp only [List.getElem_cons_succ, List.eraseIdx_cons_succ]
      exact ((List.Perm.cons a this).trans (List.Perm.swap _ _ _))
theorem map_eraseIdx' {α β : Type} (g : α → β) : ∀ (l : List α) (k : Nat), (l.map g).eraseIdx k = (l.eraseIdx k).map g
  | [], _ => by simp
  | a :: l, 0 => by simp
  | a :: l, k + 1 => by simp [map_eraseIdx' g l k]
theorem lt_of_le_nodup {l : List Int} (h : l.Pairwise (· ≤ ·)) (n : l.Nodup) : l.Pairwise (· < ·) := by
  have n' : l.Pairwise (· ≠ ·) := n
  have := h.and n'
  exact this.imp fun ⟨h1, h2⟩ => by omega
section
variable {P : Program} {w : World} {K : PySem.W.Frag} {mg : Str → Option Value} {base : Heap}
theorem scRow : FnScope ["feed", "reader", "limit", "may", "rest", "found", "turn"] ["feed", "reader"] (defScope sRow) := ⟨rfl, rfl, rfl, by decide +kernel, rfl, by decide +kernel, by decide +kernel⟩
theorem ok_row {f fT : Addr} {fd fdT : FuncData} (F : Fun K "_law_row" "_law_row" sRow f fd) (FT : Fun K "_law_take" "_law_take" sTake fT fdT) (bT : Binds K fdT ["feed", "many"] []) (gT : mg "_law_take" = some (.ref fT)) (B : Bi mg) :
    FnOk P w K mg base CX0 2 f fd ["feed", "reader"] (spRow K) := by
  have GT : FnOk P w K mg base CX0 1 fT fdT ["feed", "many"] spTake := ok_take FT B
  refine F.ok scRow (fun vs H Q E h => ?_) (fun cdv A outer s H vs Q E hr h => ?_)
  · obtain ⟨a, v, r, rfl, _⟩ := h
    rfl
  · obtain ⟨a, v, ⟨lim, may⟩, rfl, hF, ⟨t, m, rfl, hT, hM⟩, l0, l6, hp, hlen, q⟩ := h
    replace hlen : may.length ≤ 60 := hlen
    replace l0 : 0 ≤ lim := l0
    replace l6 : lim ≤ 6 := l6
    replace hp : may.Pairwise (· < ·) := hp
    refine ⟨_, pss_cons (ps_asg (pv 1) (pg_tup (by rfl) (pgs_cons (pg_name (i := 2) scRow.nd rfl (.inl rfl)) (pgs_cons (pg_name (i := 3) scRow.nd rfl (.inl rfl)) pgs_nil))))
      (pss_cons (ps_par (i := 4) (j := 5) (by rfl) scRow.nd rfl rfl (by decide) rfl rfl (pa_cons (pe_callTy call_list_of (by rfl) B.list (by decide +kernel) (pa_cons (pv 3) pa_nil)) (pa_cons (pe_lst pa_nil) pa_nil)) (by rfl))
      (pss_cons (ps_for PassesOwn.never rfl (pi_range1 rfl B.range (pa_cons (pe_call GT hr (by rfl) gT FT.kp bT .nil pass0 (pa_cons (pv 0) (pa_cons (pe_op op_add pe_int (pe_callB (call_min2 rfl) (by rfl) B.min (by decide +kernel) (pa_cons (pv 2) (pa_cons (pe_callB call_len_seq (by rfl) B.len PySem.boot_len (pa_cons (pv 3) pa_nil)) pa_nil)))) pa_nil))) pa_nil))
          (pg_name (i := 6) scRow.nd rfl (.inl rfl))
          (pss_one (ps_expr (pe_bm PySem.F.plainAttrs_list PySem.F.slot_list_append PySem.F.type_list_append mt_append (pv 5) (pa_cons
            (pe_bm PySem.F.plainAttrs_list PySem.F.slot_list_pop PySem.F.type_list_pop mt_popAt (pv 4) (pa_cons (pe_call GT hr (by rfl) gT FT.kp bT .nil pass0 (pa_cons (pv 0) (pa_cons (pe_callB call_len_seq (by rfl) B.len PySem.boot_len (pa_cons (pv 4) pa_nil)) pa_nil))) pa_nil)) pa_nil)))))
      (pss_one (ps_ret (pe_callTy call_tuple_of (by rfl) B.tuple (by decide +kernel) (pa_cons (pe_callB cr_sorted (by rfl) B.sorted (by decide +kernel) (pa_cons (pv 5) pa_nil)) pa_nil)))))), ?_⟩
    -- limit, may = reader
    refine ⟨_, rfl, t, _, rfl, hT, rfl, _, _, rfl, _, _, rfl, rfl, ?_⟩
    -- rest, found
    refine ⟨_, rfl, m, _, rfl, .inr hM, fun R nR => ⟨Nat.zero_le _, fun Fd nFd => ⟨_, _, rfl, ?_⟩⟩⟩
    have nFd0 : H Fd = none := (sameU nR).free nFd
    have nFR : Fd ≠ R := fun e => by rw [e, upd_same] at nFd; cases nFd
    have e0 : Ext1 a H (upd (upd H R (.lst (may.map V.int))) Fd (.lst [])) := Ext1.new (Ext1.new (.refl hF) nR) nFd
    have fR : R ≠ a := hF.ne nR
    have fF : Fd ≠ a := hF.ne nFd0
    -- range(take(feed, 1 + min(limit, len(may))))
    refine ⟨_, rfl, _, rfl, _, rfl, m, _, rfl, .inr (e0.sqT hF hM), lim, _, rfl, _, _, rfl, rfl, a, _, rfl, e0.feed, ?_, ?_, fun H1 n e1 n0 n1 => ?_⟩
    · rw [List.length_map]; split <;> omega
    · rw [List.length_map]; split <;> omega
    rw [List.length_map] at n1
    replace n1 : n < 1 + (if (may.length : Int) < lim then (may.length : Int) else lim) := n1
    have n2 : n ≤ lim ∧ n ≤ may.length := by split at n1 <;> omega
    refine ⟨n, rfl, by omega, by omega, for_range (lo := 0) (n := n.toNat) (fun i σ H' => ∃ (rs fs : List Int) (y : Option V), σ = [some (.ref a), some (.ref t), some (.int lim), some (.ref m), some (.ref R), some (.ref Fd), y] ∧ (fs ++ rs).Perm may ∧ fs.length = i ∧
        H' R = some (.lst (rs.map V.int)) ∧ H' Fd = some (.lst (fs.map V.int)) ∧ Ext1 a H H') ⟨may, [], none, rfl, List.Perm.refl _, rfl, ?_, ?_, e0.trans e1⟩ ?_ ?_⟩
    · exact e1.1 _ _ fR (by rw [upd_ne nFR.symm]; exact upd_same)
    · exact e1.1 _ _ fF upd_same
    · rintro i σ H' hi ⟨rs, fs, y, rfl, pm, hl, hR, hFd, ex⟩
      have hsz : fs.length + rs.length = may.length := by rw [← List.length_append]; exact pm.length_eq
      refine ⟨_, rfl, .inl ⟨rfl, _, .inl (.inl hFd)⟩, ?_⟩
      refine ⟨_, rfl, .inl ⟨rfl, _, .inl (.inl hR)⟩, _, rfl, _, rfl, R, _, rfl, .inl (.inl (.inl hR)), a, _, rfl, ex.feed, by rw [List.length_map]; omega, by rw [List.length_map]; omega, fun H2 k e2 k0 k1 => ?_⟩
      rw [List.length_map] at k1
      have hR2 := e2.1 _ _ fR hR
      have hF2 := e2.1 _ _ fF hFd
      obtain ⟨j, rfl⟩ : ∃ j : Nat, k = (j : Int) := ⟨k.toNat, by omega⟩
      have hj : j < rs.length := by omega
      refine ⟨R, _, (j : Int), j, .int rs[j], rfl, rfl, hR2, by omega, by omega, ?_, by simp [hj], ?_⟩
      · rw [List.length_map]
        unfold seqIndex?
        simp
        omega
      · refine ⟨Fd, _, _, rfl, rfl, (by rw [upd_ne nFR]; exact hF2), szl (by rw [List.length_map]; omega), ?_⟩
        refine ⟨rs.eraseIdx j, fs ++ [rs[j]], some (.int (0 + (i : Int))), rfl, ?_, by simp [hl], ?_, ?_, ?_⟩
        · rw [List.append_assoc]
          exact (List.Perm.append_left fs (perm_get hj).symm).trans pm
        · rw [upd_ne nFR.symm, upd_same, map_eraseIdx']
        · rw [upd_same, List.map_append]
          rfl
        · exact ((ex.trans e2).own nR fR).own nFd0 fF
    · rintro σ H' ⟨rs, fs, y, rfl, pm, hl, hR, hFd, ex⟩
      have nd : may.Nodup := hp.imp fun h => by omega
      have hsz : fs.length + rs.length = may.length := by rw [← List.length_append]; exact pm.length_eq
      refine ⟨_, rfl, Fd, fs, rfl, .inl (.inl hFd), by omega, fun ns' p pm2 so np => ⟨p, _, rfl, .inl ⟨.inl (.inl upd_same), fun l nl => ?_⟩⟩⟩
      have ex2 : Ext1 a H (upd (upd H' p (.lst (ns'.map V.int))) l (.tup (ns'.map V.int))) := (ex.new np).new nl
      refine q _ l ns' ex2 ((ex.new np).free nl) upd_same ⟨?_, ?_, ?_⟩
      · have : (fs ++ rs).Nodup := pm.nodup_iff.mpr nd
        have nf : fs.Nodup := (List.nodup_append.mp this).1
        exact lt_of_le_nodup so (pm2.nodup_iff.mpr nf)
      · intro x hx
        exact pm.mem_iff.mp (List.mem_append_left _ (pm2.mem_iff.mp hx))
      · rw [pm2.length_eq, hl]
        show ((n.toNat : Nat) : Int) ≤ lim
        omega
end
end Ew
namespace Ew
open PySem PySem.Spec PyProof.Rows L2
abbrev sRows : Stmt := (top 19)
abbrev sTimes : Stmt := (top 20)
def RdsOk (rs : List (Int × List Int)) : Prop := ∀ r ∈ rs, 0 ≤ r.1 ∧ r.1 ≤ 6 ∧ r.2.Pairwise (· < ·) ∧ r.2.length ≤ 60
def spRows (K : PySem.W.Frag) : Sp := fun vs H Q _ => ∃ (f R ab : Addr) (rs : List (Int × List Int)) (as : List Int), vs = [.ref f, .ref R, .ref ab] ∧ FeedAt H f ∧ R ≠ f ∧ RdL K H R rs ∧ RdsOk rs ∧ rs.length ≤ 60 ∧ SqT K H ab (as.map V.int) ∧
  ∀ H' p vs ws, Ext1 f H H' → H p = none → H' p = some (.lst vs) → Paired (RowT K H') vs ws → Paired RowOk rs ws → (∀ i w, ws[i]? = some w → ((i : Nat) : Int) ∈ as → w = []) → Q (.ref p) H'
theorem flat_ints (l : List Int) : (l.map V.int).all flatV = true := by
  rw [List.all_map]
  exact List.all_eq_true.mpr fun _ _ => rfl
theorem inV_int (i : Int) (l : List Int) : inV (.int i) (l.map V.int) = decide (i ∈ l) := by
  unfold inV
  rw [List.any_map]
  induction l with
  | nil => rfl
  | cons a l ih =>
    rw [List.any_cons, ih]
    have e : ((fun y => eqV y (V.int i)) ∘ V.int) a = decide (a = i) := by
      show eqV (V.int a) (V.int i) = _
      by_cases h : a = i
      · subst h
        simp [eqV]
      · simp [eqV, h]
    rw [e]
    by_cases h : a = i
    · subst h; simp
    · have h' : ¬ i = a := fun e => h e.symm
      simp [h, h']
theorem Paired.len {α β : Type} {R : α → β → Prop} : ∀ {xs : List α} {ys : List β}, Paired R xs ys → xs.length = ys.length
  | _, _, .nil => rfl
  | _, _, .cons _ t => by simp [Paired.len t]
theorem Paired.take {α β : Type} {R : α → β → Prop} : ∀ {xs : List α} {ys : List β} (n : Nat), Paired R xs ys → Paired R (xs.take n) (ys.take n)
  | _, _, 0, _ => .nil
  | _, _, _ + 1, .nil => .nil
  | _, _, n + 1, .cons r t => .cons r (Paired.take n t)
section
variable {P : Program} {w : World} {K : PySem.W.Frag} {mg : Str → Option Value} {base : Heap}
theorem scRows : FnScope ["feed", "readers", "absent", "at", "reader"] ["feed", "readers", "absent"] (defScope sRows) := ⟨rfl, rfl, rfl, by decide +kernel, rfl, by decide +kernel, by decide +kernel⟩
theorem ok_rows {f fT fR : Addr} {fd fdT fdR : FuncData} (F : Fun K "_law_rows" "_law_rows" sRows f fd) (FT : Fun K "_law_take" "_law_take" sTake fT fdT) (bT : Binds K fdT ["feed", "many"] []) (gT : mg "_law_take" = some (.ref fT))
    (FR : Fun K "_law_row" "_law_row" sRow fR fdR) (bR : Binds K fdR ["feed", "reader"] []) (gR : mg "_law_row" = some (.ref fR)) (B : Bi mg) :
    FnOk P w K mg base CX0 3 f fd ["feed", "readers", "absent"] (spRows K) := by
  have GR : FnOk P w K mg base CX0 2 fR fdR ["feed", "reader"] (spRow K) := ok_row FR FT bT gT B
  refine F.ok scRows (fun vs H Q E h => ?_) (fun cdv A outer s H vs Q E hr h => ?_)
  · obtain ⟨a, R, ab, rs, as, rfl, _⟩ := h
    rfl
  · obtain ⟨a, R, ab, rs, as, rfl, hF, nR, ⟨us, hL, hP⟩, hok, hlen, hA, q⟩ := h
    refine ⟨_, pss_one (ps_ret (pe_lc (own := [("at", 3), ("reader", 4)]) (g := gTup K 2 (gCons (gName 3) (gCons (gName 4) gNil))) (tt := tYes) (te := tIf (tTest (tOp (rIn K false) (tVar 3) (tVar 2))) (tTup tNil) (tCall (spRow K) [] E0 (tCons (tVar 0) (tCons (tVar 4) tNil)))) rfl scRows.nd (pi_enum (by rfl) B.enumerate (pa_cons (pv 1) pa_nil)) (blkOk_by (own := [("at", 3), ("reader", 4)]) (N := ["feed", "readers", "absent", "at", "reader"]) (sc := defScope sRows) (by decide +kernel))
      (fun _ _ _ _ _ => pg_tup (by rfl) (pgs_cons (pg_name (i := 3) scRows.nd rfl (.inl rfl)) (pgs_cons (pg_name (i := 4) scRows.nd rfl (.inl rfl)) pgs_nil))) (fun _ _ _ _ _ => pts_nil)
      (fun _ _ _ _ _ => pe_ifExp (pt_cmpR op_in_seq (pv 3) (pv 2) (by rfl)) (pe_tup pa_nil) (pe_call GR hr (by rfl) gR FR.kp bR .nil pass0 (pa_cons (pv 0) (pa_cons (pv 4) pa_nil)))))), ?_⟩
    refine ⟨_, rfl, R, us, rfl, hL, fun D nD => ?_⟩
    have fD : D ≠ a := hF.ne nD
    refine lc_it (walk_enum (xs := us)) (fun i H' => ∃ (vs : List V) (ws : List (List Int)), Ext1 a H H' ∧ H' D = some (.lst vs) ∧ Paired (RowT K H') vs ws ∧ Paired RowOk (rs.take i) ws ∧ (∀ i w, ws[i]? = some w → ((i : Nat) : Int) ∈ as → w = []))
      ⟨[], [], (Ext1.refl hF).new nD, upd_same, .nil, .nil, fun i w e => by simp at e⟩ (fun i H' _ ⟨_, _, e, _⟩ => e.sqL nR hL) ?_ ?_
    · rintro i x H1 H2 hi ⟨vs, ws, e1, hD, p1, p2, p3⟩ ⟨T, x1, x2, rfl, nT, rfl, f1, f2⟩
      obtain ⟨r, hr2, rd⟩ := Paired.at1 hP f2
      have eT : Ext1 a H (upd H1 T (.tup [x1, x2])) := e1.new nT
      have sT : Same H1 (upd H1 T (.tup [x1, x2])) := sameU nT
      obtain rfl : V.int (i : Nat) = x1 := Option.some.inj f1
      refine ⟨T, _, rfl, .inl (.inl upd_same), rfl, _, _, rfl, _, _, rfl, rfl, rfl, ?_⟩
      have hlw : ws.length = i := by
        rw [← Paired.len p2, List.length_take]
        have := Paired.len hP
        omega
      have hlv : vs.length = i := by rw [Paired.len p1]; exact hlw
      have hil : i < 60 := by have := Paired.len hP; omega
      have hrm : r ∈ rs := List.mem_of_getElem? hr2
      obtain ⟨g1, g2, g3, g4⟩ := hok r hrm
      dsimp only [tYes]
      refine iteT ?_
      refine ⟨_, rfl, _, rfl, ab, _, rfl, .inr (eT.sqT hF hA), rfl, flat_ints as, _, rfl, ?_⟩
      have step : ∀ (H3 : Hp) (p : Addr) (w : List Int), Same (upd H1 T (.tup [V.int (i : Nat), x2])) H3 ∨ Ext1 a (upd H1 T (.tup [V.int (i : Nat), x2])) H3 → H3 p = some (.tup (w.map V.int)) → RowOk r w → (((i : Nat) : Int) ∈ as → w = []) →
          ∃ acc, H3 D = some (.lst acc) ∧ acc.length < sizeLine ∧ ∃ (vs : List V) (ws : List (List Int)), Ext1 a H (upd H3 D (.lst (acc ++ [.ref p]))) ∧ (upd H3 D (.lst (acc ++ [.ref p]))) D = some (.lst vs) ∧ Paired (RowT K (upd H3 D (.lst (acc ++ [.ref p])))) vs ws ∧ Paired RowOk (rs.take (i + 1)) ws ∧ (∀ i w, ws[i]? = some w → ((i : Nat) : Int) ∈ as → w = []) := by
        intro H3 p w hs hp ro hw
        have e3 : Ext1 a (upd H1 T (.tup [V.int (i : Nat), x2])) H3 := by
          rcases hs with hs | hs
          · exact .same eT.feed hs
          · exact hs
        have hD3 : H3 D = some (.lst vs) := e3.1 _ _ fD (sT _ _ hD)
        have hP3 : RowT K H3 (.ref p) w := ⟨p, rfl, .inl (.inl hp)⟩
        refine ⟨vs, hD3, szl (by omega), vs ++ [.ref p], ws ++ [w], (eT.trans e3).own nD fD, upd_same, ?_, ?_, ?_⟩
        · exact Paired.snoc (L2.Paired.mapP p1 fun _ _ z => RowT.upd hD3 ((z.same sT).ext e3 eT.feed)) (RowT.upd hD3 hP3)
        · rw [take_more hr2]
          exact Paired.snoc p2 ro
        · intro i' w' he hm
          rcases Nat.lt_or_ge i' ws.length with h | h
          · rw [List.getElem?_append_left h] at he
            exact p3 _ _ he hm
          · rw [List.getElem?_append_right h] at he
            have h0 : i' - ws.length = 0 := by
              cases hz : i' - ws.length with
              | zero => rfl
              | succ n => rw [hz] at he; simp at he
            rw [h0] at he
            have : w = w' := by simpa using he
            subst this
            have : i' = i := by omega
            subst this
            exact hw hm
      by_cases hin : ((i : Nat) : Int) ∈ as
      · have e : inV (V.int (i : Nat)) (as.map V.int) = true := by rw [inV_int]; exact decide_eq_true hin
        rw [e]
        refine iteT ⟨Nat.zero_le _, fun p np => ?_⟩
        exact step _ p [] (.inl (sameU np)) upd_same ⟨.nil, fun x hx => by simp at hx, by simpa using g1⟩ fun _ => rfl
      · have e : inV (V.int (i : Nat)) (as.map V.int) = false := by rw [inV_int]; exact decide_eq_false hin
        rw [e]
        refine iteF ⟨_, rfl, _, rfl, a, x2, r, rfl, eT.feed, (rd.ext eT hF), g1, g2, g3, g4, fun H3 p w e3 np hp ro => ?_⟩
        exact step _ p w (.inr e3) hp ro fun h => absurd h hin
    · rintro H' ⟨vs, ws, e1, hD, p1, p2, p3⟩
      rw [Paired.len hP, List.take_length] at p2
      exact q H' D vs ws e1 nD hD p1 p2 p3
end
end Ew
namespace Ew
open PySem PySem.Spec PyProof.Rows L2
/-- the scope of the comprehension that a def returns -/
def retScope (s : Stmt) : Scope := match defBody s with
  | [.Return (some (.ListComp _ _ sc _)) _] => sc
  | _ => { kind := .function, names := [], isGenerator := false, isCoroutine := false }
def times (ws : List (List Int)) (n : Nat) : List Int := (List.range n).map fun (k : Nat) => ((ws.filter fun r => decide (((k : Nat) : Int) ∈ r)).length : Int)
def spTimes (K : PySem.W.Frag) : Sp := fun vs H Q _ => ∃ (R : Addr) (us : List V) (ws : List (List Int)) (n : Nat), vs = [.ref R, .int n] ∧ SqL K H R us ∧ Paired (RowT K H) us ws ∧ ws.length ≤ 60 ∧ n ≤ 60 ∧
  ∀ H' p, Same H H' → H p = none → H' p = some (.lst ((times ws n).map V.int)) → Q (.ref p) H'
section
variable {P : Program} {w : World} {K : PySem.W.Frag} {mg : Str → Option Value} {base : Heap}
theorem scTimes : FnScope ["rows", "works", "work", "row"] ["rows", "works"] (defScope sTimes) := ⟨rfl, rfl, rfl, by decide +kernel, rfl, by decide +kernel, by decide +kernel⟩
theorem filter_take_snoc {α : Type} (g : α → Bool) {l : List α} {i : Nat} {x : α} (h : l[i]? = some x) : (l.take (i + 1)).filter g = (l.take i).filter g ++ (if g x = true then [x] else []) := by
  rw [take_more h, List.filter_append]
  by_cases e : g x = true
  · rw [if_pos e]; simp [e]
  · rw [if_neg e]; simp [e]
theorem same_own {H H1 : Hp} {D : Addr} {o : HO} (s : Same H H1) (n : H D = none) : Same H (upd H1 D o) := fun b u e => by
  rw [upd_ne (ne_of_none e n)]
  exact s _ _ e
theorem ok_times {f : Addr} {fd : FuncData} (F : Fun K "_law_times" "_law_times" sTimes f fd) (B : Bi mg) : FnOk P w K mg base CX0 1 f fd ["rows", "works"] (spTimes K) := by
  refine F.ok scTimes (fun vs H Q E h => ?_) (fun cdv A outer s H vs Q E hr h => ?_)
  · obtain ⟨R, us, ws, n, rfl, _⟩ := h
    rfl
  · obtain ⟨R, us, ws, n, rfl, hL, hP, hlen, hn, q⟩ := h
    refine ⟨_, pss_one (ps_ret (pe_lc (own := [("work", 2)]) (g := gName 2) (tt := tYes)
      (te := tCB (fun xs H Q => ∃ p ys, xs = [.ref p] ∧ (SqL K H p ys ∨ SqT K H p ys) ∧ Q (.int ys.length) H) (tCons (tLc (iList K (tVar 0)) (gName 3) (tTest (tOp (rIn K false) (tVar 2) (tVar 3))) (tVar 3) [3]) tNil))
      rfl scTimes.nd (pi_range1 rfl B.range (pa_cons (pv 1) pa_nil)) (blkOk_by (own := [("work", 2)]) (N := ["rows", "works", "work", "row"]) (sc := defScope sTimes) (by decide +kernel))
      (fun _ _ _ _ _ => pg_name (i := 2) scTimes.nd rfl (.inr rfl)) (fun _ _ _ _ _ => pts_nil)
      (fun _ _ _ _ _ => pe_callB call_len_seq (by rfl) B.len PySem.boot_len (pa_cons
        (pe_lc (own := [("row", 3)]) (g := gName 3) (tt := tTest (tOp (rIn K false) (tVar 2) (tVar 3))) (te := tVar 3) rfl scTimes.nd (pi_list (pv 0)) (blkOk_by (own := [("row", 3)]) (N := ["rows", "works", "work", "row"]) (sc := relS (retScope sTimes) (defScope sTimes)) (by decide +kernel))
          (fun _ _ _ _ _ => pg_name (i := 3) scTimes.nd rfl (.inl rfl)) (fun _ _ _ _ _ => pts_one (pt_cmpR op_in_seq (pv 2) (pv 3) (by rfl))) (fun _ _ _ _ _ => pv 3)) pa_nil)))), ?_⟩
    have tk : ∀ i, i < n → (times ws n)[i]? = some (((ws.filter fun r => decide (((i : Nat) : Int) ∈ r)).length : Nat) : Int) := fun i hi => by
      unfold times
      rw [List.getElem?_map, List.getElem?_range hi]
      rfl
    have tl : (times ws n).length = n := by
      unfold times
      rw [List.length_map, List.length_range]
    refine ⟨_, rfl, n, rfl, by omega, by omega, fun D nD => ?_⟩
    refine lc_range (lo := 0) (n := ((n : Nat) : Int).toNat) (fun i H' => Same H H' ∧ H' D = some (.lst (((times ws n).take i).map V.int))) ⟨sameU nD, upd_same⟩ ?_ ?_
    · rintro i H1 hi ⟨s1, hD⟩
      have hi' : i < n := by simpa using hi
      refine ⟨rfl, ?_⟩
      dsimp only [tYes]
      refine iteT ?_
      refine ⟨_, rfl, R, rfl, ⟨_, s1.seq hL⟩, fun D2 nD2 => ?_⟩
      refine lc_list (K := K) (a := R) (xs := us) (fun j H' => ∃ vs, Same H1 H' ∧ H' D2 = some (.lst vs) ∧ vs.length = ((ws.take j).filter fun r => decide (((i : Nat) : Int) ∈ r)).length) ⟨[], sameU nD2, upd_same, rfl⟩ (fun j H' _ ⟨_, e, _⟩ => e.seq (s1.seq hL)) ?_ ?_
      · rintro j x H2 hx ⟨vs, s2, hD2, el⟩
        obtain ⟨r, hr2, t, rfl, hT⟩ := Paired.at1 hP hx
        have hT2 : SqT K H2 t (r.map V.int) := sameT s2 (sameT s1 hT)
        refine ⟨rfl, _, rfl, _, rfl, t, _, rfl, .inr hT2, rfl, flat_ints r, _, rfl, ?_⟩
        have ez : (0 : Int) + ((i : Nat) : Int) = ((i : Nat) : Int) := Int.zero_add _
        rw [ez, if_neg Bool.false_ne_true, inV_int]
        have st := filter_take_snoc (fun r => decide (((i : Nat) : Int) ∈ r)) hr2
        have hvl : vs.length ≤ 60 := by
          rw [el]
          refine Nat.le_trans (List.length_filter_le _ _) ?_
          rw [List.length_take]; omega
        refine ite2 (fun c => ?_) (fun c => ?_)
        · refine ⟨_, rfl, vs, hD2, szl (by omega), vs ++ [.ref t], same_own s2 nD2, upd_same, ?_⟩
          rw [st, if_pos c, List.length_append, List.length_append, el]
          rfl
        · refine ⟨vs, s2, hD2, ?_⟩
          rw [st, if_neg c, List.append_nil]
          exact el
      · rintro H2 ⟨vs, s2, hD2, el⟩
        have nd : D ≠ D2 := ne_of_none hD nD2
        refine ⟨D2, vs, rfl, .inl (.inl (.inl hD2)), _, s2 _ _ hD, szl (by rw [List.length_map, List.length_take]; omega), same_own (s1.trans s2) nD, ?_⟩
        have el' : vs.length = (ws.filter fun r => decide (((i : Nat) : Int) ∈ r)).length := by
          rw [el, Paired.len hP, List.take_length]
        rw [upd_same, take_more (tk i hi'), List.map_append, el']
        rfl
    · rintro H' ⟨s1, hD⟩
      refine q H' D s1 nD ?_
      rw [hD]
      rw [List.take_of_length_le (by rw [tl]; exact Nat.le_of_eq (Int.toNat_natCast n).symm)]
end
end Ew
namespace Ew
open PySem PySem.Spec PyProof.Rows L2
abbrev sBook : Stmt := (top 21)
def RdsAt (n : Int) (rs : List (Int × List Int)) : Prop := ∀ r ∈ rs, RdOk n r
/-- the demands at A, the readers at R -/
structure BookAt (K : PySem.W.Frag) (H : Hp) (A R : Addr) (ds : List Int) (us : List V) (rs : List (Int × List Int)) : Prop where
  dem : H A = some (.lst (ds.map V.int))
  rd : H R = some (.lst us)
  rds : Paired (RdT K H) us rs
  n1 : 1 ≤ ds.length
  n6 : ds.length ≤ 6
  d6 : ∀ d ∈ ds, 0 ≤ d ∧ d ≤ 6
  r6 : rs.length ≤ 6
  ok : RdsAt ds.length rs
  ne : A ≠ R
def spBook (K : PySem.W.Frag) : Sp := fun vs H Q _ => ∃ (f : Addr) (mw mr : Int), vs = [.ref f, .int mw, .int mr] ∧ FeedAt H f ∧ 1 ≤ mw ∧ mw ≤ 6 ∧ 0 ≤ mr ∧ mr ≤ 6 ∧
  ∀ H' p A R ds us rs, Ext1 f H H' → H p = none → H A = none → H R = none → H' p = some (.lst [.ref A, .ref R]) → BookAt K H' A R ds us rs → p ≠ A → p ≠ R → ds.length ≤ mw → rs.length ≤ mr → Q (.ref p) H'
theorem mem_map_int {v : V} {l : List Int} (h : v ∈ l.map V.int) : ∃ i, v = .int i ∧ i ∈ l := by
  obtain ⟨i, h1, h2⟩ := List.mem_map.mp h
  exact ⟨i, h2.symm, h1⟩
theorem asc_len : ∀ {l : List Int} {lo n : Int}, l.Pairwise (· < ·) → (∀ x ∈ l, lo ≤ x ∧ x < n) → lo ≤ n → (l.length : Int) ≤ n - lo
  | [], lo, n, _, _, h => by simp; omega
  | x :: l, lo, n, hp, hb, h => by
    have hx := hb x (by simp)
    have hp' := List.pairwise_cons.mp hp
    have := asc_len (l := l) (lo := x + 1) (n := n) hp'.2 (fun y hy => ⟨by have := hp'.1 y hy; omega, (hb y (by simp [hy])).2⟩) (by omega)
    simp only [List.length_cons]
    omega
theorem Asc.len {n : Int} {l : List Int} (h : Asc n l) (hn : 0 ≤ n) : (l.length : Int) ≤ n := by
  have := asc_len h.1 h.2 hn
  omega
theorem rdsOk_of {n : Int} {rs : List (Int × List Int)} (h : RdsAt n rs) (h0 : 0 ≤ n) (h6 : n ≤ 6) : RdsOk rs := fun r hr => by
  obtain ⟨a, b, c⟩ := h r hr
  have := c.len h0
  exact ⟨a, b, c.1, by omega⟩
theorem times_len (ws : List (List Int)) (n : Nat) : (times ws n).length = n := by
  unfold times
  rw [List.length_map, List.length_range]
theorem times_le (ws : List (List Int)) (n : Nat) : ∀ d ∈ times ws n, 0 ≤ d ∧ d ≤ (ws.length : Int) := by
  intro d hd
  unfold times at hd
  obtain ⟨k, _, rfl⟩ := List.mem_map.mp hd
  have := List.length_filter_le (fun r => decide (((k : Nat) : Int) ∈ r)) ws
  omega
section
variable {P : Program} {w : World} {K : PySem.W.Frag} {mg : Str → Option Value} {base : Heap}
/-- what stands of the law's small defs -/
structure Low (K : PySem.W.Frag) (mg : Str → Option Value) : Prop where
  bi : Bi mg
  feed : ∃ f fd, Fun K "_law_feed" "_law_feed" sFeed f fd ∧ Binds K fd ["script", "k"] [] ∧ mg "_law_feed" = some (.ref f)
  take : ∃ f fd, Fun K "_law_take" "_law_take" sTake f fd ∧ Binds K fd ["feed", "many"] [] ∧ mg "_law_take" = some (.ref f)
  pick : ∃ f fd, Fun K "_law_pick" "_law_pick" sPick f fd ∧ Binds K fd ["feed", "some"] [] ∧ mg "_law_pick" = some (.ref f)
  row : ∃ f fd, Fun K "_law_row" "_law_row" sRow f fd ∧ Binds K fd ["feed", "reader"] [] ∧ mg "_law_row" = some (.ref f)
  rows : ∃ f fd, Fun K "_law_rows" "_law_rows" sRows f fd ∧ Binds K fd ["feed", "readers", "absent"] [] ∧ mg "_law_rows" = some (.ref f)
  times : ∃ f fd, Fun K "_law_times" "_law_times" sTimes f fd ∧ Binds K fd ["rows", "works"] [] ∧ mg "_law_times" = some (.ref f)
  book : ∃ f fd, Fun K "_law_book" "_law_book" sBook f fd ∧ Binds K fd ["feed", "most_works", "most_readers"] [] ∧ mg "_law_book" = some (.ref f)
theorem scBook : FnScope ["feed", "most_works", "most_readers", "works", "readers", "wide", "turn", "may", "work", "demands"] ["feed", "most_works", "most_readers"] (defScope sBook) := ⟨rfl, rfl, rfl, by decide +kernel, rfl, by decide +kernel, by decide +kernel⟩
theorem ok_book {f : Addr} {fd : FuncData} (F : Fun K "_law_book" "_law_book" sBook f fd) (L : Low K mg) : FnOk P w K mg base CX0 4 f fd ["feed", "most_works", "most_readers"] (spBook K) := by
  obtain ⟨B, _, ⟨fT, fdT, FT, bT, gT⟩, ⟨fP, fdP, FP, bP, gP⟩, ⟨fR, fdR, FR, bR, gR⟩, ⟨fS, fdS, FS, bS, gS⟩, ⟨fM, fdM, FM, bM, gM⟩, _⟩ := L
  have GT : FnOk P w K mg base CX0 1 fT fdT ["feed", "many"] spTake := ok_take FT B
  have GP : FnOk P w K mg base CX0 2 fP fdP ["feed", "some"] (spPick K) := ok_pick FP FT bT gT B
  have GS : FnOk P w K mg base CX0 3 fS fdS ["feed", "readers", "absent"] (spRows K) := ok_rows FS FT bT gT FR bR gR B
  have GM : FnOk P w K mg base CX0 1 fM fdM ["rows", "works"] (spTimes K) := ok_times FM B
  refine F.ok scBook (fun vs H Q E h => ?_) (fun cdv A outer s H vs Q E hr h => ?_)
  · obtain ⟨a, mw, mr, rfl, _⟩ := h
    rfl
  · obtain ⟨a, mw, mr, rfl, hF, w1, w6, r0, r6, q⟩ := h
    have hr1 : Room 1 _ := hr.mono (by decide)
    have hr2 : Room 2 _ := hr.mono (by decide)
    refine ⟨_, pss_cons (ps_par (i := 3) (j := 4) (by rfl) scBook.nd rfl rfl (by decide) rfl rfl (pa_cons (pe_op op_add pe_int (pe_call GT hr1 (by rfl) gT FT.kp bT .nil pass0 (pa_cons (pv 0) (pa_cons (pv 1) pa_nil)))) (pa_cons (pe_lst pa_nil) pa_nil)) (by rfl))
      (pss_cons (ps_set (i := 5) scBook.nd rfl (.inr rfl) (pe_call GT hr1 (by rfl) gT FT.kp bT .nil pass0 (pa_cons (pv 0) (pa_cons pe_int pa_nil))))
      (pss_cons (ps_for PassesOwn.never rfl (pi_range1 rfl B.range (pa_cons (pe_call GT hr1 (by rfl) gT FT.kp bT .nil pass0 (pa_cons (pv 0) (pa_cons (pe_op op_add (pv 2) pe_int) pa_nil))) pa_nil)) (pg_name (i := 6) scBook.nd rfl (.inl rfl))
        (pss_cons (ps_setLc (i := 7) (own := [("work", 8)]) (g := gName 8) (tt := tTest (tOp (rI0 fun i j => .bl (decide (i < j))) (tCall spTake [] E0 (tCons (tVar 0) (tCons (tC (.int 3)) tNil))) (tOp (rI0 fun i j => .int (i + j)) (tC (.int 1)) (tVar 5)))) (te := tVar 8)
            (by rfl) scBook.nd rfl rfl (sw_true rfl rfl rfl (by decide +kernel)) (pi_range1 rfl B.range (pa_cons (pv 3) pa_nil))
            (blkOk_by (own := [("work", 8)]) (N := ["feed", "most_works", "most_readers", "works", "readers", "wide", "turn", "may", "work", "demands"]) (sc := defScope sBook) (by decide +kernel))
            (fun _ _ _ _ _ => pg_name (i := 8) scBook.nd rfl (.inl rfl))
            (fun _ _ _ _ _ => pts_one (pt_cmpR op_lt (pe_call GT hr1 (by rfl) gT FT.kp bT .nil pass0 (pa_cons (pv 0) (pa_cons pe_int pa_nil))) (pe_op op_add pe_int (pv 5)) (nomark _))) (fun _ _ _ _ _ => pv 8))
        (pss_one (ps_expr (pe_bm PySem.F.plainAttrs_list PySem.F.slot_list_append PySem.F.type_list_append mt_append (pv 4) (pa_cons (pe_tup (pa_cons
            (pe_call GP hr2 (by rfl) gP FP.kp bP .nil pass0 (pa_cons (pv 0) (pa_cons (pe_lst (pa_cons pe_int (pa_cons pe_int (pa_cons pe_int (pa_cons pe_int (pa_cons pe_int (pa_cons pe_int (pa_cons pe_int (pa_cons pe_int (pa_cons pe_int (pa_cons pe_int pa_nil))))))))))) pa_nil)))
            (pa_cons (pe_callTy call_tuple_of (by rfl) B.tuple (by decide +kernel) (pa_cons (pv 7) pa_nil)) pa_nil))) pa_nil))))))
      (pss_cons (ps_set (i := 9) scBook.nd rfl (.inl rfl) (pe_call GM hr1 (by rfl) gM FM.kp bM .nil pass0 (pa_cons (pe_call GS hr (by rfl) gS FS.kp bS .nil pass0 (pa_cons (pv 0) (pa_cons (pv 4) (pa_cons (pe_tup pa_nil) pa_nil)))) (pa_cons (pv 3) pa_nil))))
      (pss_cons (ps_for PassesOwn.never rfl (pi_range1 rfl B.range (pa_cons (pe_call GP hr2 (by rfl) gP FP.kp bP .nil pass0 (pa_cons (pv 0) (pa_cons (pe_lst (pa_cons pe_int (pa_cons pe_int (pa_cons pe_int (pa_cons pe_int (pa_cons pe_int (pa_cons pe_int pa_nil))))))) pa_nil))) pa_nil)) (pg_name (i := 6) scBook.nd rfl (.inl rfl))
        (pss_one (ps_asg (pe_call GP hr2 (by rfl) gP FP.kp bP .nil pass0 (pa_cons (pv 0) (pa_cons (pe_lst (pa_cons pe_int (pa_cons pe_int (pa_cons pe_int (pa_cons pe_int (pa_cons pe_int (pa_cons pe_int pa_nil))))))) pa_nil)))
          (pg_sub (pv 9) (pe_call GT hr1 (by rfl) gT FT.kp bT .nil pass0 (pa_cons (pv 0) (pa_cons (pv 3) pa_nil))) set_list))))
      (pss_one (ps_ret (pe_lst (pa_cons (pv 9) (pa_cons (pv 4) pa_nil))))))))), ?_⟩
    refine ⟨_, rfl, _, rfl, a, mw, rfl, hF, by omega, by omega, fun H1 n e1 n0 n1 => ?_⟩
    obtain ⟨wn, ew⟩ : ∃ wn : Nat, 1 + n = (wn : Int) := ⟨(1 + n).toNat, by omega⟩
    refine ⟨_, _, rfl, rfl, Nat.zero_le _, fun R nR => ⟨.int wn, .ref R, by rw [← ew], ?_⟩⟩
    have hw1 : 1 ≤ wn := by omega
    have hw6 : wn ≤ 6 := by omega
    have hwm : (wn : Int) ≤ mw := by omega
    have nR0 : H R = none := e1.free nR
    have fR : R ≠ a := hF.ne nR0
    have e1' : Ext1 a H (upd H1 R (.lst [])) := e1.new nR
    refine ⟨_, rfl, a, 3, rfl, e1'.feed, by decide, by decide, fun H2 wd e2 wd0 wd1 => ?_⟩
    refine ⟨_, rfl, _, rfl, _, _, rfl, rfl, a, _, rfl, e2.feed, by omega, by omega, fun H3 n3 e3 n30 n31 => ⟨n3, rfl, by omega, by omega, ?_⟩⟩
    have e3' : Ext1 a H H3 := e1'.trans (e2.trans e3)
    refine for_range (lo := 0) (n := n3.toNat) (fun i σ H' => ∃ (us : List V) (rs : List (Int × List Int)) (y6 y7 : Option V), σ = [some (.ref a), some (.int mw), some (.int mr), some (.int wn), some (.ref R), some (.int wd), y6, y7, none, none] ∧ Ext1 a H H' ∧ H' R = some (.lst us) ∧
        Paired (RdT K H') us rs ∧ rs.length = i ∧ RdsAt wn rs) ⟨[], [], none, none, rfl, e3', ?_, .nil, rfl, fun r hr => by simp at hr⟩ ?_ ?_
    · exact e3.1 _ _ fR (e2.1 _ _ fR upd_same)
    · rintro i σ H4 hi ⟨us, rs, y6, y7, rfl, e4, hR, hP, hlen, hok⟩
      refine ⟨_, rfl, wn, rfl, by omega, by omega, fun D nD => ?_⟩
      have nD0 : H D = none := e4.free nD
      have fD : D ≠ a := hF.ne nD0
      have nDR : R ≠ D := ne_of_none hR nD
      refine lc_range (lo := 0) (n := ((wn : Nat) : Int).toNat) (fun j H' => ∃ acc : List Int, Ext1 a H4 H' ∧ H' D = some (.lst (acc.map V.int)) ∧ acc.Pairwise (· < ·) ∧ ∀ x ∈ acc, 0 ≤ x ∧ x < (j : Int))
        ⟨[], (Ext1.refl e4.feed).new nD, upd_same, .nil, fun x hx => by simp at hx⟩ ?_ ?_
      · rintro j H5 hj ⟨acc, e5, hD, pa, ba⟩
        refine ⟨rfl, _, rfl, a, 3, rfl, e5.feed, by decide, by decide, fun H6 v e6 v0 v1 => ⟨_, rfl, _, _, rfl, rfl, _, _, rfl, rfl, _, rfl, ite2 (fun _ => ?_) (fun _ => ?_)⟩⟩
        · have hD6 := e6.1 _ _ fD hD
          have hal := asc_len pa ba (by omega)
          have hj' : j < wn := by simpa using hj
          refine ⟨_, rfl, _, hD6, szl (by rw [List.length_map]; omega), acc ++ [0 + (j : Int)], (e5.trans e6).own nD fD, by rw [upd_same, List.map_append]; rfl, ?_, ?_⟩
          · refine List.pairwise_append.mpr ⟨pa, List.pairwise_singleton _ _, fun x hx y hy => ?_⟩
            have := ba x hx
            rw [List.mem_singleton.mp hy]
            omega
          · intro x hx
            rcases List.mem_append.mp hx with h | h
            · have := ba x h
              omega
            · rw [List.mem_singleton.mp h]
              omega
        · exact ⟨acc, e5.trans e6, e6.1 _ _ fD hD, pa, fun x hx => by have := ba x hx; omega⟩
      · rintro H5 ⟨acc, e5, hD, pa, ba⟩
        have ha : Asc wn acc := ⟨pa, fun x hx => by have := ba x hx; omega⟩
        have hR5 := e5.1 _ _ fR hR
        have hi3 : i < n3.toNat := hi
        refine ⟨_, rfl, .inl ⟨rfl, _, .inl (.inl hR5)⟩, ?_⟩
        refine ⟨_, rfl, (by show 10 ≤ sizeLine; decide), fun l nl => ⟨a, l, [0, 1, 1, 1, 2, 2, 3, 4, 5, 6].map V.int, rfl, (Ext1.new (Ext1.refl e5.feed) nl).feed, .inl (.inl upd_same), e5.feed.ne nl, by decide, by decide, fun H6 v e6 hv => ?_⟩⟩
        obtain ⟨lim, rfl, hlim⟩ := mem_map_int hv
        have hl6 : 0 ≤ lim ∧ lim ≤ 6 := (by decide : ∀ x ∈ ([0, 1, 1, 1, 2, 2, 3, 4, 5, 6] : List Int), 0 ≤ x ∧ x ≤ 6) lim hlim
        have e6' : Ext1 a H5 H6 := (Ext1.new (Ext1.refl e5.feed) nl).trans e6
        have hD6 := e6'.1 _ _ fD hD
        refine ⟨_, rfl, D, _, rfl, .inl ⟨.inl (.inl hD6), fun m nm => ⟨(by show 2 ≤ sizeLine; decide), fun t nt => ?_⟩⟩⟩
        have hR6 := e6'.1 _ _ fR hR5
        have nRm : R ≠ m := ne_of_none hR6 nm
        have hR7 : upd H6 m (.tup (acc.map V.int)) R = some (.lst us) := by rw [upd_ne nRm]; exact hR6
        have nRt : R ≠ t := ne_of_none hR7 nt
        have nmt : m ≠ t := fun e => by rw [← e, upd_same] at nt; cases nt
        have hR8 : upd (upd H6 m (.tup (acc.map V.int))) t (.tup [.int lim, .ref m]) R = some (.lst us) := by rw [upd_ne nRt]; exact hR7
        have e8 : Ext1 a H4 (upd (upd H6 m (.tup (acc.map V.int))) t (.tup [.int lim, .ref m])) := ((e5.trans e6').new nm).new nt
        have hul : us.length ≤ 100 := by rw [Paired.len hP, hlen]; omega
        refine ⟨R, _, _, rfl, rfl, hR8, szl (by omega), us ++ [.ref t], rs ++ [(lim, acc)], some (.int (0 + (i : Int))), some (.ref D), rfl, (e4.trans e8).own nR0 fR, upd_same, ?_, by simp [hlen], ?_⟩
        · refine Paired.snoc (L2.Paired.mapP hP fun _ _ z => RdT.upd hR8 (z.ext e8 e4.feed)) (RdT.upd hR8 ⟨t, m, rfl, .inl (.inl upd_same), .inl (.inl ?_)⟩)
          rw [upd_ne nmt, upd_same]
        · intro r hr
          rcases List.mem_append.mp hr with h | h
          · exact hok r h
          · rw [List.mem_singleton.mp h]
            exact ⟨hl6.1, hl6.2, ha⟩
    · rintro σ H4 ⟨us, rs, y6, y7, rfl, e4, hR, hP, hlen, hok⟩
      have hrl : rs.length ≤ 6 ∧ (rs.length : Int) ≤ mr := by omega
      refine ⟨_, rfl, _, rfl, Nat.zero_le _, fun ab nab => ?_⟩
      have e4' : Ext1 a H4 (upd H4 ab (.tup [])) := (Ext1.refl e4.feed).new nab
      refine ⟨a, R, ab, rs, [], rfl, e4'.feed, fR, ⟨us, .inl (.inl (e4'.1 _ _ fR hR)), L2.Paired.mapP hP fun _ _ z => z.ext e4' e4.feed⟩, rdsOk_of hok (by omega) (by omega), by omega, .inl (.inl upd_same), fun H5 p vs ws e5 np hp pw pr _ => ?_⟩
      have hwl : ws.length = rs.length := (Paired.len pr).symm
      refine ⟨_, rfl, p, vs, ws, wn, rfl, .inl (.inl hp), pw, by omega, by omega, fun H6 A s6 nA hA => ?_⟩
      have e6 : Ext1 a H4 H6 := (e4'.trans e5).trans (.same e5.feed s6)
      have nA0 : H A = none := (e4.trans (e4'.trans e5)).free nA
      have fA : A ≠ a := hF.ne nA0
      have hR6 := e6.1 _ _ fR hR
      have nAR : A ≠ R := fun e => by
        have := (e4'.trans e5).1 _ _ fR hR
        rw [← e, nA] at this; cases this
      have hP6 := L2.Paired.mapP hP fun _ _ z => RdT.ext e6 e4.feed z
      -- the demands are changed
      refine ⟨_, rfl, (by show 6 ≤ sizeLine; decide), fun l nl => ⟨a, l, [0, 0, 1, 1, 2, 6].map V.int, rfl, (Ext1.new (Ext1.refl e6.feed) nl).feed, .inl (.inl upd_same), e6.feed.ne nl, by decide, by decide, fun H7 v e7 hv => ?_⟩⟩
      obtain ⟨z, rfl, hz⟩ := mem_map_int hv
      have hz6 : 0 ≤ z ∧ z ≤ 6 := (by decide : ∀ x ∈ ([0, 0, 1, 1, 2, 6] : List Int), 0 ≤ x ∧ x ≤ 6) z hz
      have e7' : Ext1 a H6 H7 := (Ext1.new (Ext1.refl e6.feed) nl).trans e7
      refine ⟨z, rfl, by omega, by omega, ?_⟩
      refine for_range (lo := 0) (n := z.toNat) (fun i σ H' => ∃ (ds : List Int) (y6 : Option V), σ = [some (.ref a), some (.int mw), some (.int mr), some (.int wn), some (.ref R), some (.int wd), y6, y7, none, some (.ref A)] ∧ Ext1 a H H' ∧ H' A = some (.lst (ds.map V.int)) ∧ ds.length = wn ∧ (∀ d ∈ ds, 0 ≤ d ∧ d ≤ 6) ∧
          H' R = some (.lst us) ∧ Paired (RdT K H') us rs) ⟨times ws wn, y6, rfl, (e4.trans e6).trans e7', e7'.1 _ _ fA hA, times_len _ _, fun d hd => by have := times_le ws wn d hd; omega, e7'.1 _ _ fR hR6, L2.Paired.mapP hP6 fun _ _ z => RdT.ext e7' e6.feed z⟩ ?_ ?_
      · rintro i σ H8 hi ⟨ds, y6', rfl, e8, hA8, dl, db, hR8, hP8⟩
        refine ⟨_, rfl, (by show 6 ≤ sizeLine; decide), fun l nl => ⟨a, l, [0, 1, 1, 2, 3, 6].map V.int, rfl, (Ext1.new (Ext1.refl e8.feed) nl).feed, .inl (.inl upd_same), e8.feed.ne nl, by decide, by decide, fun H9 v e9 hv => ?_⟩⟩
        obtain ⟨y, rfl, hy⟩ := mem_map_int hv
        have hy6 : 0 ≤ y ∧ y ≤ 6 := (by decide : ∀ x ∈ ([0, 1, 1, 2, 3, 6] : List Int), 0 ≤ x ∧ x ≤ 6) y hy
        have e9' : Ext1 a H8 H9 := (Ext1.new (Ext1.refl e8.feed) nl).trans e9
        refine ⟨_, rfl, _, rfl, _, rfl, a, wn, rfl, e9'.feed, by omega, by omega, fun H10 k e10 k0 k1 => ?_⟩
        have e10' := e9'.trans e10
        have hA10 := e10'.1 _ _ fA hA8
        have hR10 := e10'.1 _ _ fR hR8
        obtain ⟨j, rfl⟩ : ∃ j : Nat, k = (j : Int) := ⟨k.toNat, by omega⟩
        refine ⟨A, _, (j : Int), j, rfl, rfl, hA10, ?_, ds.set j y, some (.int (0 + (i : Int))), rfl, (e8.trans e10').own nA0 fA, ?_, by simp [dl], ?_, ?_, ?_⟩
        · rw [List.length_map, dl]
          unfold ixN
          rw [if_pos (by omega), if_pos (by omega)]
          simp
        · rw [upd_same, List.map_set]
        · intro d hd
          rcases List.mem_or_eq_of_mem_set hd with h | h
          · exact db d h
          · rw [h]; exact hy6
        · rw [upd_ne nAR.symm]; exact hR10
        · exact L2.Paired.mapP hP8 fun _ _ z => RdT.upd hA10 (z.ext e10' e8.feed)
      · rintro σ H8 ⟨ds, y6', rfl, e8, hA8, dl, db, hR8, hP8⟩
        refine ⟨_, rfl, _, rfl, (by show 2 ≤ sizeLine; decide), fun p np => ?_⟩
        have hs : Same H8 (upd H8 p (.lst [.ref A, .ref R])) := sameU np
        have npA : p ≠ A := (ne_of_none hA8 np).symm
        have npR : p ≠ R := (ne_of_none hR8 np).symm
        exact q _ p A R ds us rs (e8.new np) (e8.free np) nA0 nR0 upd_same
          ⟨hs _ _ hA8, hs _ _ hR8, L2.Paired.mapP hP8 fun _ _ z => RdT.same hs z, by omega, by omega, db, hrl.1, by rw [dl]; exact hok, nAR⟩ npA npR (by omega) hrl.2
end
end Ew
namespace Ew
open PySem PySem.Spec PyProof.Rows L2
abbrev sIsInt : Stmt := (top 5)
abbrev sIsAmt : Stmt := (top 6)
abbrev sIsAsc : Stmt := (top 7)
abbrev sAreDem : Stmt := (top 11)
abbrev sIsRd : Stmt := (top 12)
def isI : V → Bool
  | .int _ => true
  | _ => false
def amt : V → Bool
  | .int i => decide (0 ≤ i) && decide (i ≤ 6)
  | _ => false
def ascV (n : Int) : Int → List V → Bool
  | _, [] => true
  | l, .int i :: r => decide (l < i) && decide (i < n) && ascV n i r
  | _, _ :: _ => false
/-- a value of a built-in type (of which what is asked about it stays) -/
def Bt (K : PySem.W.Frag) (H : Hp) (x : V) (T : String) : Prop := TyX K H x (.type T)
def spIsInt (K : PySem.W.Frag) : Sp := fun vs H Q _ => ∃ (x : V) (T : String), vs = [x] ∧ Bt K H x T ∧ Q (.bl (isI x)) H
def spIsAmt (K : PySem.W.Frag) : Sp := fun vs H Q _ => ∃ (x : V) (T : String), vs = [x] ∧ Bt K H x T ∧ Q (.bl (amt x)) H
def spIsAsc (K : PySem.W.Frag) : Sp := fun vs H Q _ => ∃ (x : V) (n : Int), vs = [x, .int n] ∧ ((∃ T, Bt K H x T ∧ T ≠ "tuple" ∧ Q (.bl false) H) ∨ ∃ t xs, x = .ref t ∧ SqT K H t xs ∧ (∀ y ∈ xs, ∃ T, Bt K H y T) ∧ Q (.bl (ascV n (-1) xs)) H)
def spAreDem (K : PySem.W.Frag) : Sp := fun vs H Q _ => ∃ (x : V), vs = [x] ∧ ((∃ T, Bt K H x T ∧ T ≠ "list" ∧ Q (.bl false) H) ∨ ∃ a xs, x = .ref a ∧ SqL K H a xs ∧ Bt K H x "list" ∧ xs.length ≤ 1000 ∧ (∀ y ∈ xs, ∃ T, Bt K H y T) ∧
  ∀ H', Same H H' → Q (.bl (decide (1 ≤ xs.length ∧ xs.length ≤ 6) && xs.all amt)) H')
def rdV (K : PySem.W.Frag) (H : Hp) (n : Int) (x : V) (b : Bool) : Prop :=
  (∃ T, Bt K H x T ∧ T ≠ "tuple" ∧ b = false) ∨ (∃ t xs, x = .ref t ∧ SqT K H t xs ∧ xs.length ≠ 2 ∧ b = false) ∨
  (∃ t y z, x = .ref t ∧ SqT K H t [y, z] ∧ (∃ T, Bt K H y T) ∧ ((∃ T, Bt K H z T ∧ T ≠ "tuple" ∧ b = false) ∨ ∃ m ys, z = .ref m ∧ SqT K H m ys ∧ (∀ u ∈ ys, ∃ T, Bt K H u T) ∧ b = (amt y && ascV n (-1) ys)))
def spIsRd (K : PySem.W.Frag) : Sp := fun vs H Q _ => ∃ (x : V) (n : Int) (b : Bool), vs = [x, .int n] ∧ rdV K H n x b ∧ Q (.bl b) H
theorem isI_of {K : PySem.W.Frag} {H : Hp} {x : V} {T : String} (h : Bt K H x T) : PySem.W.kitOne K (.type T) (.type "int") = some (decide (T = "int" ∨ T = "bool")) ∧ PySem.W.kitOne K (.type T) (.type "bool") = some (decide (T = "bool")) ∧ isI x = decide (T = "int") := by
  cases h with
  | base b => cases b <;> exact ⟨kit_ty (by decide +kernel), kit_ty (by decide +kernel), rfl⟩
  | _ => exact ⟨kit_ty (by decide +kernel), kit_ty (by decide +kernel), rfl⟩
theorem isT_of {K : PySem.W.Frag} {H : Hp} {x : V} {T : String} (h : Bt K H x T) : PySem.W.kitOne K (.type T) (.type "tuple") = some (decide (T = "tuple")) ∧ PySem.W.kitOne K (.type T) (.type "list") = some (decide (T = "list")) := by
  cases h with
  | base b => cases b <;> exact ⟨kit_ty (by decide +kernel), kit_ty (by decide +kernel)⟩
  | _ => exact ⟨kit_ty (by decide +kernel), kit_ty (by decide +kernel)⟩
theorem bt_tup {K : PySem.W.Frag} {H : Hp} {t : Addr} {xs : List V} (h : SqT K H t xs) : Bt K H (.ref t) "tuple" := by
  rcases h with (h | ⟨o, h⟩) | ⟨o, its, n, h, c, _⟩
  · exact .base (.tup h)
  · exact .fTuple h
  · exact .kTuple h c
theorem bt_lst {K : PySem.W.Frag} {H : Hp} {t : Addr} {xs : List V} (h : SqL K H t xs) : Bt K H (.ref t) "list" := by
  rcases h with (h | ⟨o, h⟩) | ⟨o, its, n, h, c, _⟩
  · exact .base (.lst h)
  · exact .base (.frz h)
  · exact .kList h c
theorem isI_int {x : V} (h : isI x = true) : ∃ i, x = .int i := by
  cases x <;> first | exact ⟨_, rfl⟩ | cases h
theorem amt_not {x : V} (h : isI x = false) : amt x = false := by
  cases x <;> first | rfl | cases h
/-- what stands of the package's small defs -/
structure Vals1 (K : PySem.W.Frag) (mg : Str → Option Value) : Prop where
  bi : Bi mg
  ga : ∃ t, mg "GREATEST_AMOUNT" = some (.int 6 t)
  mw : ∃ t, mg "MOST_WORKS" = some (.int 6 t)
  mr : ∃ t, mg "MOST_READERS" = some (.int 6 t)
  isInt : ∃ f fd, Fun K "is_integer" "is_integer" sIsInt f fd ∧ Binds K fd ["value"] [] ∧ mg "is_integer" = some (.ref f)
  isAmt : ∃ f fd, Fun K "is_amount" "is_amount" sIsAmt f fd ∧ Binds K fd ["value"] [] ∧ mg "is_amount" = some (.ref f)
  isAsc : ∃ f fd, Fun K "is_ascending" "is_ascending" sIsAsc f fd ∧ Binds K fd ["value", "many"] [] ∧ mg "is_ascending" = some (.ref f)
  areDem : ∃ f fd, Fun K "are_demands" "are_demands" sAreDem f fd ∧ Binds K fd ["value"] [] ∧ mg "are_demands" = some (.ref f)
  isRd : ∃ f fd, Fun K "is_reader" "is_reader" sIsRd f fd ∧ Binds K fd ["value", "many"] [] ∧ mg "is_reader" = some (.ref f)
section
variable {P : Program} {w : World} {K : PySem.W.Frag} {mg : Str → Option Value} {base : Heap}
theorem scIsInt : FnScope ["value"] ["value"] (defScope sIsInt) := ⟨rfl, rfl, rfl, by decide +kernel, rfl, by decide +kernel, by decide +kernel⟩
theorem ok_isInt {f : Addr} {fd : FuncData} (F : Fun K "is_integer" "is_integer" sIsInt f fd) (B : Bi mg) : FnOk P w K mg base CX0 1 f fd ["value"] (spIsInt K) := by
  refine F.ok scIsInt (fun vs H Q E h => ?_) (fun cdv A outer s H vs Q E hr h => ?_)
  · obtain ⟨x, T, rfl, _⟩ := h
    rfl
  · obtain ⟨x, T, rfl, hT, q⟩ := h
    refine ⟨_, pss_one (ps_ret (pe_and (pe_callB call_isi (by rfl) B.isinstance (by decide +kernel) (pa_cons (pv 0) (pa_cons (pe_bltn (v := .ty "int") (by rfl) B.int (by decide +kernel) rfl) pa_nil)))
      (pe_one (pe_not (pe_callB call_isi (by rfl) B.isinstance (by decide +kernel) (pa_cons (pv 0) (pa_cons (pe_bltn (v := .ty "bool") (by rfl) B.bool (by decide +kernel) rfl) pa_nil))))))), ?_⟩
    obtain ⟨k1, k2, e⟩ := isI_of hT
    refine ⟨x, rfl, x, .ty "int", _, _, _, rfl, .ty _, hT, k1, _, rfl, ?_⟩
    refine ite2 (fun c => ?_) (fun c => ?_)
    · refine ⟨x, rfl, x, .ty "bool", _, _, _, rfl, .ty _, hT, k2, _, rfl, ?_⟩
      have : (!decide (T = "bool")) = isI x := by
        rw [e]
        rcases of_decide_eq_true c with h | h
        · subst h; decide
        · subst h; decide
      rw [this]
      exact q
    · have : false = isI x := by
        rw [e]
        have h : ¬ (T = "int" ∨ T = "bool") := fun h => c (decide_eq_true h)
        exact (decide_eq_false fun h' => h (.inl h')).symm
      rw [this]
      exact q
theorem scIsAmt : FnScope ["value"] ["value"] (defScope sIsAmt) := ⟨rfl, rfl, rfl, by decide +kernel, rfl, by decide +kernel, by decide +kernel⟩
theorem ok_isAmt {f : Addr} {fd : FuncData} (F : Fun K "is_amount" "is_amount" sIsAmt f fd) (L : Vals1 K mg) : FnOk P w K mg base CX0 2 f fd ["value"] (spIsAmt K) := by
  obtain ⟨B, ⟨tg, ga⟩, _, _, ⟨fI, fdI, FI, bI, gI⟩, _⟩ := L
  have GI : FnOk P w K mg base CX0 1 fI fdI ["value"] (spIsInt K) := ok_isInt FI B
  refine F.ok scIsAmt (fun vs H Q E h => ?_) (fun cdv A outer s H vs Q E hr h => ?_)
  · obtain ⟨x, T, rfl, _⟩ := h
    rfl
  · obtain ⟨x, T, rfl, hT, q⟩ := h
    refine ⟨_, pss_one (ps_ret (pe_and (pe_call GI hr (by rfl) gI FI.kp bI .nil pass0 (pa_cons (pv 0) pa_nil)) (pe_one (pe_chain op_le op_le pe_int (pv 0) (pe_glob (v := .int 6) (by rfl) ga ⟨_, rfl⟩))))), ?_⟩
    refine ⟨x, rfl, x, T, rfl, hT, _, rfl, ?_⟩
    refine ite2 (fun c => ?_) (fun c => ?_)
    · obtain ⟨i, rfl⟩ := isI_int c
      refine ⟨_, rfl, _, _, rfl, rfl, _, rfl, ite2 (fun c => ?_) (fun c => ?_)⟩
      · refine ⟨_, _, rfl, rfl, ?_⟩
        have : amt (.int i) = decide (i ≤ 6) := by show (_ && _) = _; rw [c]; rfl
        rw [this] at q
        exact q
      · have : amt (.int i) = false := by show (_ && _) = _; rw [Bool.eq_false_iff.mpr c]; rfl
        rw [this] at q
        exact q
    · rw [amt_not (Bool.eq_false_iff.mpr c)] at q
      exact q
theorem scIsAsc : FnScope ["value", "many", "last", "item"] ["value", "many"] (defScope sIsAsc) := ⟨rfl, rfl, rfl, by decide +kernel, rfl, by decide +kernel, by decide +kernel⟩
theorem ok_isAsc {f : Addr} {fd : FuncData} (F : Fun K "is_ascending" "is_ascending" sIsAsc f fd) (L : Vals1 K mg) : FnOk P w K mg base CX0 2 f fd ["value", "many"] (spIsAsc K) := by
  obtain ⟨B, _, _, _, ⟨fI, fdI, FI, bI, gI⟩, _⟩ := L
  have GI : FnOk P w K mg base CX0 1 fI fdI ["value"] (spIsInt K) := ok_isInt FI B
  refine F.ok scIsAsc (fun vs H Q E h => ?_) (fun cdv A outer s H vs Q E hr h => ?_)
  · obtain ⟨x, n, rfl, _⟩ := h
    rfl
  · obtain ⟨x, n, rfl, h⟩ := h
    refine ⟨_, pss_cons (ps_if (pt_not (pt_val (pe_callB call_isi (by rfl) B.isinstance (by decide +kernel) (pa_cons (pv 0) (pa_cons (pe_bltn (v := .ty "tuple") (by rfl) B.tuple (by decide +kernel) rfl) pa_nil))))) (pss_one (ps_ret pe_bl)) pss_nil)
      (pss_cons (ps_set (i := 2) scIsAsc.nd rfl (.inl rfl) (pe_un un_neg pe_int))
      (pss_cons (ps_for PassesOwn.never rfl (pi_tup (pv 0)) (pg_name (i := 3) scIsAsc.nd rfl (.inl rfl))
        (pss_cons (ps_if (PW.pt (pw_or (pt_not (pt_val (pe_call GI hr (by rfl) gI FI.kp bI .nil pass0 (pa_cons (pv 3) pa_nil)))) (pw_or1 (pt_not (pt_chain op_lt op_lt (pv 2) (pv 3) (pv 1)))))) (pss_one (ps_ret pe_bl)) pss_nil)
          (pss_one (ps_set (i := 2) scIsAsc.nd rfl (.inl rfl) (pv 3)))))
      (pss_one (ps_ret pe_bl)))), ?_⟩
    rcases h with ⟨T, hT, nT, q⟩ | ⟨t, xs, rfl, hS, hty, q⟩
    · obtain ⟨k1, _⟩ := isT_of hT
      rw [decide_eq_false nT] at k1
      refine ⟨x, rfl, x, .ty "tuple", _, _, _, rfl, .ty _, hT, k1, _, rfl, ?_⟩
      exact q
    · obtain ⟨k1, _⟩ := isT_of (bt_tup hS)
      refine ⟨_, rfl, _, .ty "tuple", _, _, _, rfl, .ty _, bt_tup hS, k1, _, rfl, ?_⟩
      show (if (!decide ("tuple" = "tuple")) = true then _ else _)
      refine iteNS rfl ?_
      refine ⟨1, rfl, ?_⟩
      refine ⟨_, rfl, t, rfl, ⟨_, hS⟩, for_tup (K := K) (a := t) (xs := xs) (fun i σ H' => ∃ (l : Int) (y : Option V), σ = [some (.ref t), some (.int n), some (.int l), y] ∧ H' = H ∧ ascV n (-1) xs = ascV n l (xs.drop i)) ⟨-1, none, rfl, rfl, rfl⟩ (fun i σ H' _ ⟨_, _, _, e, _⟩ => e ▸ hS) ?_ ?_⟩
      · rintro i x σ H' hx ⟨l, y, rfl, rfl, e⟩
        obtain ⟨T, hT⟩ := hty x (List.mem_of_getElem? hx)
        have hd : xs.drop i = x :: xs.drop (i + 1) := by
          have hl := (List.getElem?_eq_some_iff.mp hx)
          rw [List.drop_eq_getElem_cons hl.1, hl.2]
        rw [hd] at e
        refine ⟨_, rfl, _, T, rfl, hT, _, rfl, ?_⟩
        cases hi : isI x with
        | false =>
          have : ascV n l (x :: xs.drop (i + 1)) = false := by cases x <;> first | rfl | cases hi
          rw [e, this] at q
          exact q
        | true =>
          obtain ⟨z, rfl⟩ := isI_int hi
          refine ⟨_, rfl, _, rfl, _, _, rfl, rfl, _, rfl, ite2 (fun c => ?_) (fun c => ?_)⟩
          · refine ⟨_, rfl, _, _, rfl, rfl, _, rfl, ?_⟩
            show (if (!decide (z < n)) = true then _ else _)
            cases c2 : decide (z < n) with
            | true =>
              refine iteF ?_
              refine ⟨_, rfl, z, _, rfl, rfl, ?_⟩
              rw [e]
              show (decide (l < z) && decide (z < n) && _) = _
              rw [c, c2]
              rfl
            | false =>
              refine iteT ?_
              have : ascV n l (V.int z :: xs.drop (i + 1)) = false := by
                show (decide (l < z) && decide (z < n) && _) = _
                rw [c2, Bool.and_false]
                rfl
              rw [e, this] at q
              exact q
          · refine ⟨_, rfl, ?_⟩
            have : ascV n l (V.int z :: xs.drop (i + 1)) = false := by
              show (decide (l < z) && decide (z < n) && _) = _
              rw [Bool.eq_false_iff.mpr c]
              rfl
            rw [e, this] at q
            exact q
      · rintro σ H' ⟨l, y, rfl, rfl, e⟩
        rw [List.drop_length] at e
        have e' : ascV n (-1) xs = true := e
        rw [e'] at q
        exact q
end
end Ew
namespace Ew
open PySem PySem.Spec PyProof.Rows L2
section
variable {P : Program} {w : World} {K : PySem.W.Frag} {mg : Str → Option Value} {base : Heap}
theorem Bt.same {H H' : Hp} {x : V} {T : String} (s : Same H H') (h : Bt K H x T) : Bt K H' x T := by
  cases h with
  | base b =>
    cases b with
    | non => exact .base .non
    | bl => exact .base (.bl _)
    | int => exact .base (.int _)
    | str => exact .base (.str _)
    | flt => exact .base (.flt _)
    | lst e => exact .base (.lst (s _ _ e))
    | frz e => exact .base (.frz (s _ _ e))
    | tup e => exact .base (.tup (s _ _ e))
    | dK e => exact .base (.dK (s _ _ e))
    | dT e => exact .base (.dT (s _ _ e))
  | byt => exact .byt _
  | set e => exact .set (s _ _ e)
  | kList e c => exact .kList e c
  | kTuple e c => exact .kTuple e c
  | kDict e c => exact .kDict e c
  | fTuple e => exact .fTuple (s _ _ e)
  | fDict e => exact .fDict (s _ _ e)
theorem scAreDem : FnScope ["value", "demand"] ["value"] (defScope sAreDem) := ⟨rfl, rfl, rfl, by decide +kernel, rfl, by decide +kernel, by decide +kernel⟩
theorem ok_areDem {f : Addr} {fd : FuncData} (F : Fun K "are_demands" "are_demands" sAreDem f fd) (L : Vals1 K mg) : FnOk P w K mg base CX0 3 f fd ["value"] (spAreDem K) := by
  have L' := L
  obtain ⟨B, _, ⟨tw, mw⟩, _, _, ⟨fA, fdA, FA, bA, gA⟩, _⟩ := L'
  have GA : FnOk P w K mg base CX0 2 fA fdA ["value"] (spIsAmt K) := ok_isAmt FA L
  refine F.ok scAreDem (fun vs H Q E h => ?_) (fun cdv A outer s H vs Q E hr h => ?_)
  · obtain ⟨x, rfl, _⟩ := h
    rfl
  · obtain ⟨x, rfl, h⟩ := h
    refine ⟨_, pss_cons (ps_if (PW.pt (pw_or (pt_not (pt_val (pe_callB call_isi (by rfl) B.isinstance (by decide +kernel) (pa_cons (pv 0) (pa_cons (pe_bltn (v := .ty "list") (by rfl) B.list (by decide +kernel) rfl) pa_nil)))))
          (pw_or1 (pt_not (pt_chain op_le op_le pe_int (pe_callB call_len_seq (by rfl) B.len PySem.boot_len (pa_cons (pv 0) pa_nil)) (pe_glob (v := .int 6) (by rfl) mw ⟨_, rfl⟩)))))) (pss_one (ps_ret pe_bl)) pss_nil)
      (pss_one (ps_ret (pe_callB (cr_all rfl) (by rfl) B.all (by decide +kernel) (pa_cons
        (pe_lc (own := [("demand", 1)]) (g := gName 1) (tt := tYes) (te := tCall (spIsAmt K) [] E0 (tCons (tVar 1) tNil)) rfl scAreDem.nd (pi_list (pv 0)) (blkOk_by (own := [("demand", 1)]) (N := ["value", "demand"]) (sc := defScope sAreDem) (by decide +kernel))
          (fun _ _ _ _ _ => pg_name (i := 1) scAreDem.nd rfl (.inl rfl)) (fun _ _ _ _ _ => pts_nil) (fun _ _ _ _ _ => pe_call GA hr (by rfl) gA FA.kp bA .nil pass0 (pa_cons (pv 1) pa_nil))) pa_nil)))), ?_⟩
    rcases h with ⟨T, hT, nT, q⟩ | ⟨a, xs, rfl, hS, hB, hl, hty, q⟩
    · obtain ⟨_, k1⟩ := isT_of hT
      rw [decide_eq_false nT] at k1
      refine ⟨x, rfl, x, .ty "list", _, _, _, rfl, .ty _, hT, k1, _, rfl, ?_⟩
      exact q
    · obtain ⟨_, k1⟩ := isT_of hB
      refine ⟨_, rfl, _, .ty "list", _, _, _, rfl, .ty _, hB, k1, _, rfl, ?_⟩
      show (if (!decide ("list" = "list")) = true then _ else _)
      refine iteNS rfl ?_
      refine ⟨_, rfl, a, xs, rfl, .inl hS, _, _, rfl, rfl, _, rfl, ite2 (fun c => ?_) (fun c => ?_)⟩
      · refine ⟨_, _, rfl, rfl, _, rfl, ?_⟩
        have c1 : (1 : Int) ≤ ((xs.length : Nat) : Int) := of_decide_eq_true c
        show (if (!decide (((xs.length : Nat) : Int) ≤ 6)) = true then _ else _)
        by_cases c6 : ((xs.length : Nat) : Int) ≤ 6
        · refine iteNS c6 ?_
          refine ⟨_, rfl, a, rfl, ⟨_, hS⟩, fun D nD => ?_⟩
          refine lc_list (K := K) (a := a) (xs := xs) (fun i H' => Same H H' ∧ H' D = some (.lst (((xs.take i).map amt).map V.bl))) ⟨sameU nD, upd_same⟩ (fun i H' _ ⟨e, _⟩ => e.seq hS) ?_ ?_
          · rintro i x H1 hx ⟨s1, hD⟩
            obtain ⟨T, hT⟩ := hty x (List.mem_of_getElem? hx)
            refine ⟨rfl, ?_⟩
            dsimp only [tYes]
            refine iteT ?_
            refine ⟨_, rfl, x, T, rfl, hT.same s1, _, hD, szl (by rw [List.length_map, List.length_map, List.length_take]; omega), same_own s1 nD, ?_⟩
            rw [upd_same, take_more hx, List.map_append, List.map_append]
            rfl
          · rintro H1 ⟨s1, hD⟩
            rw [List.take_length] at hD
            refine ⟨D, _, rfl, .inl (.inl hD), ?_⟩
            have q' := q H1 s1
            have e1 : decide (1 ≤ xs.length ∧ xs.length ≤ 6) = true := decide_eq_true (by omega)
            have e2 : (xs.map amt).all id = xs.all amt := by rw [List.all_map]; rfl
            rw [e1, Bool.true_and, ← e2] at q'
            exact q'
        · rw [decide_eq_false c6]
          refine iteT ?_
          have e1 : decide (1 ≤ xs.length ∧ xs.length ≤ 6) = false := decide_eq_false (by omega)
          have q' := q H (Same.refl H)
          rw [e1] at q'
          exact q'
      · refine ⟨_, rfl, ?_⟩
        have c1 : ¬ (1 : Int) ≤ ((xs.length : Nat) : Int) := fun h => c (decide_eq_true h)
        have e1 : decide (1 ≤ xs.length ∧ xs.length ≤ 6) = false := decide_eq_false (by omega)
        have q' := q H (Same.refl H)
        rw [e1] at q'
        exact q'
theorem scIsRd : FnScope ["value", "many", "limit", "may"] ["value", "many"] (defScope sIsRd) := ⟨rfl, rfl, rfl, by decide +kernel, rfl, by decide +kernel, by decide +kernel⟩
theorem ok_isRd {f : Addr} {fd : FuncData} (F : Fun K "is_reader" "is_reader" sIsRd f fd) (L : Vals1 K mg) : FnOk P w K mg base CX0 3 f fd ["value", "many"] (spIsRd K) := by
  have L' := L
  obtain ⟨B, _, _, _, _, ⟨fA, fdA, FA, bA, gA⟩, ⟨fC, fdC, FC, bC, gC⟩, _⟩ := L'
  have GA : FnOk P w K mg base CX0 2 fA fdA ["value"] (spIsAmt K) := ok_isAmt FA L
  have GC : FnOk P w K mg base CX0 2 fC fdC ["value", "many"] (spIsAsc K) := ok_isAsc FC L
  refine F.ok scIsRd (fun vs H Q E h => ?_) (fun cdv A outer s H vs Q E hr h => ?_)
  · obtain ⟨x, n, b, rfl, _⟩ := h
    rfl
  · obtain ⟨x, n, b, rfl, h, q⟩ := h
    refine ⟨_, pss_cons (ps_if (PW.pt (pw_or (pt_not (pt_val (pe_callB call_isi (by rfl) B.isinstance (by decide +kernel) (pa_cons (pv 0) (pa_cons (pe_bltn (v := .ty "tuple") (by rfl) B.tuple (by decide +kernel) rfl) pa_nil)))))
          (pw_or1 (pt_cmpR op_ne (pe_callB call_len_seq (by rfl) B.len PySem.boot_len (pa_cons (pv 0) pa_nil)) pe_int (nomark _))))) (pss_one (ps_ret pe_bl)) pss_nil)
      (pss_cons (ps_asg (pv 0) (pg_tup (by rfl) (pgs_cons (pg_name (i := 2) scIsRd.nd rfl (.inl rfl)) (pgs_cons (pg_name (i := 3) scIsRd.nd rfl (.inl rfl)) pgs_nil))))
      (pss_one (ps_ret (pe_and (pe_call GA hr (by rfl) gA FA.kp bA .nil pass0 (pa_cons (pv 2) pa_nil)) (pe_one (pe_call GC hr (by rfl) gC FC.kp bC .nil pass0 (pa_cons (pv 3) (pa_cons (pv 1) pa_nil)))))))), ?_⟩
    rcases h with ⟨T, hT, nT, rfl⟩ | ⟨t, xs, rfl, hS, hl, rfl⟩ | ⟨t, y, z, rfl, hS, ⟨Ty, hy⟩, hz⟩
    · obtain ⟨k1, _⟩ := isT_of hT
      rw [decide_eq_false nT] at k1
      refine ⟨x, rfl, x, .ty "tuple", _, _, _, rfl, .ty _, hT, k1, _, rfl, ?_⟩
      exact q
    · obtain ⟨k1, _⟩ := isT_of (bt_tup hS)
      refine ⟨_, rfl, _, .ty "tuple", _, _, _, rfl, .ty _, bt_tup hS, k1, _, rfl, ?_⟩
      show (if (!decide ("tuple" = "tuple")) = true then _ else _)
      refine iteNS rfl ?_
      refine ⟨_, rfl, t, xs, rfl, .inr hS, rfl, _, rfl, ?_⟩
      have e : decide (V.int ((xs.length : Nat) : Int) = V.int 2) = false := decide_eq_false fun h => hl (by have := V.int.inj h; omega)
      rw [e]
      exact q
    · obtain ⟨k1, _⟩ := isT_of (bt_tup hS)
      refine ⟨_, rfl, _, .ty "tuple", _, _, _, rfl, .ty _, bt_tup hS, k1, _, rfl, ?_⟩
      show (if (!decide ("tuple" = "tuple")) = true then _ else _)
      refine iteNS rfl ?_
      refine ⟨_, rfl, t, _, rfl, .inr hS, rfl, _, rfl, ?_⟩
      refine iteF ?_
      refine ⟨_, rfl, t, _, rfl, hS, rfl, _, _, rfl, _, _, rfl, rfl, ?_⟩
      refine ⟨_, rfl, y, Ty, rfl, hy, _, rfl, ?_⟩
      rcases hz with ⟨T, hT, nT, rfl⟩ | ⟨m, ys, rfl, hM, hu, rfl⟩
      · cases amt y with
        | true => exact iteT ⟨_, rfl, _, rfl, z, _, rfl, .inl ⟨T, hT, nT, q⟩⟩
        | false => exact iteF q
      · cases ey : amt y with
        | true =>
          rw [ey] at q
          exact iteT ⟨_, rfl, _, rfl, _, _, rfl, .inr ⟨m, ys, rfl, hM, hu, q⟩⟩
        | false =>
          rw [ey] at q
          exact iteF q
end
end Ew
namespace Ew
open PySem PySem.Spec PyProof.Rows L2
abbrev sBkInit : Stmt := (inClass (top 13) 0)
abbrev sBkDem : Stmt := (inClass (top 13) 1)
abbrev sBkRd : Stmt := (inClass (top 13) 2)
abbrev sBkEq : Stmt := (inClass (top 13) 4)
theorem rd_ : ¬ (("_readers" : Str) = "_demands") := by decide +kernel
theorem dr_ : ¬ (("_demands" : Str) = "_readers") := by decide +kernel
def bf (A R : Addr) : List (Str × V) := putF "_readers" (.ref R) (putF "_demands" (.ref A) [])
theorem bf_dem (A R : Addr) : (bf A R).lookup ("_demands" : Str) = some (.ref A) := by
  unfold bf
  rw [lookup_putF, if_neg dr_, lookup_putF, if_pos rfl]
theorem bf_rd (A R : Addr) : (bf A R).lookup ("_readers" : Str) = some (.ref R) := by
  unfold bf
  rw [lookup_putF, if_pos rfl]
theorem bf_no (A R : Addr) {m : Str} (h1 : ¬ m = "_readers") (h2 : ¬ m = "_demands") : (bf A R).lookup m = none := by
  unfold bf
  rw [lookup_putF, if_neg h1, lookup_putF, if_neg h2]
  all_goals rfl
/-- a book stands at x: of ds and the readers us, which are rs; its lists are not the feed -/
def IsBook (K : PySem.W.Frag) (C f : Addr) (H : Hp) (x : Addr) (ds : List Int) (us : List V) (rs : List (Int × List Int)) : Prop :=
  ∃ dx A R, H x = some (.ins C dx (bf A R)) ∧ H A = some (.lst (ds.map V.int)) ∧ H R = some (.lst us) ∧ A ≠ f ∧ R ≠ f ∧ Paired (RdT K H) us rs
theorem IsBook.same {K : PySem.W.Frag} {C f x : Addr} {H H' : Hp} {ds us rs} (h : IsBook K C f H x ds us rs) (s : Same H H') : IsBook K C f H' x ds us rs := by
  obtain ⟨dx, A, R, h1, h2, h3, h4, h5, h6⟩ := h
  exact ⟨dx, A, R, s _ _ h1, s _ _ h2, s _ _ h3, h4, h5, L2.Paired.mapP h6 fun _ _ z => z.same s⟩
theorem IsBook.ext {K : PySem.W.Frag} {C f x : Addr} {H H' : Hp} {ds us rs} (h : IsBook K C f H x ds us rs) (hf : FeedAt H f) (s : Ext1 f H H') : IsBook K C f H' x ds us rs := by
  obtain ⟨dx, A, R, h1, h2, h3, h4, h5, h6⟩ := h
  have nx : x ≠ f := fun e => by
    obtain ⟨d, z, hz⟩ := hf
    rw [e, hz] at h1; cases h1
  exact ⟨dx, A, R, s.1 _ _ nx h1, s.1 _ _ h4 h2, s.1 _ _ h5 h3, h4, h5, L2.Paired.mapP h6 fun _ _ z => z.ext s hf⟩
/-- demands and readers as they may be -/
structure DsOk (ds : List Int) (rs : List (Int × List Int)) : Prop where
  n1 : 1 ≤ ds.length
  n6 : ds.length ≤ 6
  d6 : ∀ d ∈ ds, 0 ≤ d ∧ d ≤ 6
  r6 : rs.length ≤ 6
  ok : RdsAt ds.length rs
theorem BookAt.dsOk {K : PySem.W.Frag} {H : Hp} {A R : Addr} {ds us rs} (b : BookAt K H A R ds us rs) : DsOk ds rs := ⟨b.n1, b.n6, b.d6, b.r6, b.ok⟩
theorem bt_int {K : PySem.W.Frag} {H : Hp} (i : Int) : Bt K H (.int i) "int" := .base (.int i)
theorem ascV_ok {n : Int} : ∀ {l : List Int} {lo : Int}, l.Pairwise (· < ·) → (∀ x ∈ l, lo < x ∧ x < n) → ascV n lo (l.map V.int) = true
  | [], _, _, _ => rfl
  | x :: l, lo, hp, hb => by
    have hx := hb x (by simp)
    have hp' := List.pairwise_cons.mp hp
    show (decide (lo < x) && decide (x < n) && ascV n x (l.map V.int)) = true
    rw [decide_eq_true hx.1, decide_eq_true hx.2, ascV_ok hp'.2 fun y hy => ⟨hp'.1 y hy, (hb y (by simp [hy])).2⟩]
    rfl
theorem amt_ok {i : Int} (h : 0 ≤ i ∧ i ≤ 6) : amt (.int i) = true := by
  show (decide (0 ≤ i) && decide (i ≤ 6)) = true
  rw [decide_eq_true h.1, decide_eq_true h.2]
  rfl
theorem rdV_ok {K : PySem.W.Frag} {H : Hp} {n : Int} {v : V} {r : Int × List Int} (h : RdT K H v r) (o : RdOk n r) : rdV K H n v true := by
  obtain ⟨t, m, rfl, h1, h2⟩ := h
  refine .inr (.inr ⟨t, _, _, rfl, h1, ⟨_, bt_int _⟩, .inr ⟨m, _, rfl, h2, fun u hu => ?_, ?_⟩⟩)
  · obtain ⟨i, _, rfl⟩ := List.mem_map.mp hu
    exact ⟨_, bt_int _⟩
  · rw [amt_ok ⟨o.1, o.2.1⟩, ascV_ok o.2.2.1 fun x hx => by have := o.2.2.2 x hx; omega]
    rfl
def spBkInit (K : PySem.W.Frag) (C : Addr) : Sp := fun vs H Q _ => ∃ (x dx A R : Addr) (ds : List Int) (us : List V) (rs : List (Int × List Int)), vs = [.ref x, .ref A, .ref R] ∧ H x = some (.ins C dx []) ∧ SqL K H A (ds.map V.int) ∧ SqL K H R us ∧ Paired (RdT K H) us rs ∧ DsOk ds rs ∧
  ∀ H' A' R', (∀ b o, b ≠ x → H b = some o → H' b = some o) → H A' = none → H R' = none → H' x = some (.ins C dx (bf A' R')) → H' A' = some (.lst (ds.map V.int)) → H' R' = some (.lst us) → Q .non H'
structure BookTxt (K : PySem.W.Frag) (mg : Str → Option Value) (C : Addr) : Prop where
  cl : Cls K C
  nD : NoAttr K C "_demands"
  nR : NoAttr K C "_readers"
  mgC : mg "Book" = some (.ref C)
  init : ∃ f fd, Fun K "__init__" "Book.__init__" sBkInit f fd ∧ Binds K fd ["self", "demands", "readers"] [] ∧ Mk K C f
  dem : ∃ f fd, Fun K "demands" "Book.demands" sBkDem f fd ∧ Binds K fd ["self"] [] ∧ Meth K C "demands" f
  rd : ∃ f fd, Fun K "readers" "Book.readers" sBkRd f fd ∧ Binds K fd ["self"] [] ∧ Meth K C "readers" f
  eq : ∃ f fd, Fun K "__eq__" "Book.__eq__" sBkEq f fd ∧ Binds K fd ["self", "other"] [] ∧ Meth K C "__eq__" f
  ic : C8.InsC K C
  sub : PySem.W.notFirst K C (.ref C) = true
section
variable {P : Program} {w : World} {K : PySem.W.Frag} {mg : Str → Option Value} {base : Heap} {C : Addr}
theorem scBkInit : FnScope ["self", "demands", "readers", "place", "reader"] ["self", "demands", "readers"] (defScope sBkInit) := ⟨rfl, rfl, rfl, by decide +kernel, rfl, by decide +kernel, by decide +kernel⟩
theorem ok_bkInit {f : Addr} {fd : FuncData} (F : Fun K "__init__" "Book.__init__" sBkInit f fd) (L : Vals1 K mg) (T : BookTxt K mg C) : FnOk P w K mg base CX0 4 f fd ["self", "demands", "readers"] (spBkInit K C) := by
  have L' := L
  obtain ⟨B, _, _, ⟨tr, mr⟩, _, _, _, ⟨fD, fdD, FD, bD, gD⟩, ⟨fR, fdR, FR, bR, gR⟩⟩ := L'
  have GD : FnOk P w K mg base CX0 3 fD fdD ["value"] (spAreDem K) := ok_areDem FD L
  have GR : FnOk P w K mg base CX0 3 fR fdR ["value", "many"] (spIsRd K) := ok_isRd FR L
  refine F.ok scBkInit (fun vs H Q E h => ?_) (fun cdv A outer s H vs Q E hr h => ?_)
  · obtain ⟨x, dx, A, R, ds, us, rs, rfl, _⟩ := h
    rfl
  · obtain ⟨x, dx, A, R, ds, us, rs, rfl, hx, hA, hR, hP, ok, q⟩ := h
    refine ⟨_, pss_cons (ps_if (PW.pt (pw_or (pt_not (pt_val (pe_call GD hr (by rfl) gD FD.kp bD .nil pass0 (pa_cons (pv 1) pa_nil))))
          (pw_or (pt_not (pt_val (pe_callB call_isi (by rfl) B.isinstance (by decide +kernel) (pa_cons (pv 2) (pa_cons (pe_bltn (v := .ty "list") (by rfl) B.list (by decide +kernel) rfl) pa_nil)))))
          (pw_or1 (pt_cmpR op_gt (pe_callB call_len_seq (by rfl) B.len PySem.boot_len (pa_cons (pv 2) pa_nil)) (pe_glob (v := .int 6) (by rfl) mr ⟨_, rfl⟩) (nomark _)))))) (pss_one ps_never) pss_nil)
      (pss_cons (ps_for PassesOwn.never rfl (pi_enum (by rfl) B.enumerate (pa_cons (pv 2) pa_nil)) (pg_tup (by rfl) (pgs_cons (pg_name (i := 3) scBkInit.nd rfl (.inl rfl)) (pgs_cons (pg_name (i := 4) scBkInit.nd rfl (.inl rfl)) pgs_nil)))
        (pss_one (ps_if (pt_not (pt_val (pe_call GR hr (by rfl) gR FR.kp bR .nil pass0 (pa_cons (pv 4) (pa_cons (pe_callB call_len_seq (by rfl) B.len PySem.boot_len (pa_cons (pv 1) pa_nil)) pa_nil))))) (pss_one ps_never) pss_nil)))
      (pss_cons (ps_fld (pv 0) (pe_callTy call_list_of (by rfl) B.list (by decide +kernel) (pa_cons (pv 1) pa_nil)) rfl)
      (pss_one (ps_fld (pv 0) (pe_callTy call_list_of (by rfl) B.list (by decide +kernel) (pa_cons (pv 2) pa_nil)) rfl)))), ?_⟩
    refine ⟨_, rfl, _, rfl, .inr ⟨A, _, rfl, hA, bt_lst hA, by rw [List.length_map]; have := ok.n6; omega, fun y hy => ?_, fun H1 s1 => ?_⟩⟩
    · obtain ⟨i, _, rfl⟩ := List.mem_map.mp hy
      exact ⟨_, bt_int _⟩
    have e1 : (decide (1 ≤ (ds.map V.int).length ∧ (ds.map V.int).length ≤ 6) && (ds.map V.int).all amt) = true := by
      rw [List.length_map, decide_eq_true ⟨ok.n1, ok.n6⟩, Bool.true_and, List.all_map]
      exact List.all_eq_true.mpr fun d hd => amt_ok (ok.d6 d hd)
    rw [e1]
    refine ⟨true, rfl, iteF ?_⟩
    obtain ⟨_, k1⟩ := isT_of (bt_lst (s1.seq hR))
    refine ⟨_, rfl, _, .ty "list", _, _, _, rfl, .ty _, bt_lst (s1.seq hR), k1, _, rfl, ?_⟩
    show (if (!decide ("list" = "list")) = true then _ else _)
    refine iteNS rfl ?_
    have hul : us.length = rs.length := Paired.len hP
    have r6 := ok.r6
    refine ⟨_, rfl, R, us, rfl, .inl (s1.seq hR), _, _, rfl, rfl, _, rfl, ?_⟩
    show (if decide ((6 : Int) < ((us.length : Nat) : Int)) = true then _ else _)
    rw [decide_eq_false (by omega)]
    refine iteF ?_
    refine ⟨_, rfl, R, us, rfl, s1.seq hR, for_it (walk_enum (xs := us)) (fun i σ H' => ∃ y3 y4, σ = [some (.ref x), some (.ref A), some (.ref R), y3, y4] ∧ Same H H') ⟨none, none, rfl, s1⟩ (fun i σ H' _ ⟨_, _, _, e⟩ => e.seq hR) ?_ ?_⟩
    · rintro i v σ H2 H3 hi ⟨y3, y4, rfl, s2⟩ ⟨t, x1, x2, rfl, nt, rfl, f1, f2⟩
      obtain ⟨r, hr2, rd⟩ := Paired.at1 hP f2
      have sT : Same H (upd H2 t (.tup [x1, x2])) := s2.trans (sameU nt)
      refine ⟨t, _, rfl, .inl (.inl upd_same), rfl, _, _, rfl, _, _, rfl, rfl, ?_⟩
      refine ⟨_, rfl, _, rfl, A, _, rfl, .inl (sT.seq hA), x2, _, true, rfl, ?_, true, rfl, ?_⟩
      · rw [List.length_map]
        exact rdV_ok (rd.same sT) (ok.ok r (List.mem_of_getElem? hr2))
      · exact iteF ⟨_, _, rfl, sT⟩
    · rintro σ H2 ⟨y3, y4, rfl, s2⟩
      refine ⟨_, rfl, A, _, rfl, .inl (s2.seq hA), fun A' nA => ?_⟩
      have nxA : x ≠ A' := ne_of_none (s2 _ _ hx) nA
      have sA : Same H (upd H2 A' (.lst (ds.map V.int))) := s2.trans (sameU nA)
      refine ⟨_, rfl, x, C, dx, _, rfl, sA _ _ hx, T.cl, T.nD, by show 0 < 1000; decide, ?_⟩
      have st : ∀ b o, b ≠ x → H b = some o → upd (upd H2 A' (.lst (ds.map V.int))) x (.ins C dx (putF "_demands" (.ref A') [])) b = some o := fun b o nb e => by
        rw [upd_ne nb]; exact sA _ _ e
      have hR2 : SqL K (upd (upd H2 A' (.lst (ds.map V.int))) x (.ins C dx (putF "_demands" (.ref A') []))) R us := by
        rcases hR with (h | ⟨o, h⟩) | h
        · exact .inl (.inl (st _ _ (fun e => by rw [e, hx] at h; cases h) h))
        · exact .inl (.inr ⟨o, st _ _ (fun e => by rw [e, hx] at h; cases h) h⟩)
        · exact .inr h
      refine ⟨_, rfl, R, _, rfl, .inl hR2, fun R' nR => ?_⟩
      have nxR : x ≠ R' := fun e => by rw [← e, upd_same] at nR; cases nR
      have nR1 : upd H2 A' (.lst (ds.map V.int)) R' = none := by rw [upd_ne nxR.symm] at nR; exact nR
      have nAR : A' ≠ R' := fun e => by rw [← e, upd_same] at nR1; cases nR1
      refine ⟨_, rfl, x, C, dx, putF "_demands" (.ref A') [], rfl, ?_, T.cl, T.nR, (by show 1 < 1000; decide), ?_⟩
      · rw [upd_ne nxR, upd_same]
      refine q _ A' R' (fun b o nb e => ?_) (s2.free nA) (sA.free nR1) upd_same ?_ ?_
      · rw [upd_ne nb]
        have nbR : b ≠ R' := ne_of_none (sA _ _ e) nR1
        rw [upd_ne nbR]
        exact st _ _ nb e
      · rw [upd_ne nxA.symm, upd_ne nAR, upd_ne nxA.symm, upd_same]
      · rw [upd_ne nxR.symm, upd_same]
end
end Ew
namespace Ew
open PySem PySem.Spec PyProof.Rows L2
def spBkDem (K : PySem.W.Frag) (C : Addr) : Sp := fun vs H Q _ => ∃ (f x : Addr) (ds : List Int) (us : List V) (rs : List (Int × List Int)), vs = [.ref x] ∧ IsBook K C f H x ds us rs ∧ ∀ H' p, Same H H' → H p = none → H' p = some (.lst (ds.map V.int)) → Q (.ref p) H'
def spBkRd (K : PySem.W.Frag) (C : Addr) : Sp := fun vs H Q _ => ∃ (f x : Addr) (ds : List Int) (us : List V) (rs : List (Int × List Int)), vs = [.ref x] ∧ IsBook K C f H x ds us rs ∧ ∀ H' p, Same H H' → H p = none → H' p = some (.lst us) → Q (.ref p) H'
/-- no value of a built-in type is a book -/
def NoBook (K : PySem.W.Frag) (C : Addr) : Prop := ∀ T ∈ ["NoneType", "bool", "int", "str", "list", "tuple", "dict"], PySem.W.kitOne K (.type T) (.ref C) = some false ∧ PySem.W.notFirst K C (.type T) = true
def spBkEq (K : PySem.W.Frag) (C : Addr) : Sp := fun vs H Q _ => ∃ (f x : Addr) (y : V) (ds : List Int) (us : List V) (rs : List (Int × List Int)), vs = [.ref x, y] ∧ IsBook K C f H x ds us rs ∧
  ((∃ g z ds' us' rs', y = .ref z ∧ IsBook K C g H z ds' us' rs' ∧ Q (.bl (decide (ds = ds') && decide (rs = rs'))) H) ∨ (∃ T, Bt K H y T ∧ T ∈ ["NoneType", "bool", "int", "str", "list", "tuple", "dict"] ∧ Q (.bl false) H))
section
variable {P : Program} {w : World} {K : PySem.W.Frag} {mg : Str → Option Value} {base : Heap} {C : Addr}
theorem scBkDem : FnScope ["self"] ["self"] (defScope sBkDem) := ⟨rfl, rfl, rfl, by decide +kernel, rfl, by decide +kernel, by decide +kernel⟩
theorem ok_bkDem {f : Addr} {fd : FuncData} (F : Fun K "demands" "Book.demands" sBkDem f fd) (B : Bi mg) (T : BookTxt K mg C) : FnOk P w K mg base CX0 1 f fd ["self"] (spBkDem K C) := by
  refine F.ok scBkDem (fun vs H Q E h => ?_) (fun cdv A outer s H vs Q E hr h => ?_)
  · obtain ⟨f, x, ds, us, rs, rfl, _⟩ := h
    rfl
  · obtain ⟨f, x, ds, us, rs, rfl, ⟨dx, A, R, h1, h2, h3, h4, h5, h6⟩, q⟩ := h
    refine ⟨_, pss_one (ps_ret (pe_callTy call_list_of (by rfl) B.list (by decide +kernel) (pa_cons (pe_fld (pv 0) rfl) pa_nil))), ?_⟩
    refine ⟨_, rfl, x, C, dx, _, _, rfl, h1, T.cl, T.nD, bf_dem _ _, A, _, rfl, .inl (.inl (.inl h2)), fun p np => ?_⟩
    exact q _ p (sameU np) np upd_same
theorem scBkRd : FnScope ["self"] ["self"] (defScope sBkRd) := ⟨rfl, rfl, rfl, by decide +kernel, rfl, by decide +kernel, by decide +kernel⟩
theorem ok_bkRd {f : Addr} {fd : FuncData} (F : Fun K "readers" "Book.readers" sBkRd f fd) (B : Bi mg) (T : BookTxt K mg C) : FnOk P w K mg base CX0 1 f fd ["self"] (spBkRd K C) := by
  refine F.ok scBkRd (fun vs H Q E h => ?_) (fun cdv A outer s H vs Q E hr h => ?_)
  · obtain ⟨f, x, ds, us, rs, rfl, _⟩ := h
    rfl
  · obtain ⟨f, x, ds, us, rs, rfl, ⟨dx, A, R, h1, h2, h3, h4, h5, h6⟩, q⟩ := h
    refine ⟨_, pss_one (ps_ret (pe_callTy call_list_of (by rfl) B.list (by decide +kernel) (pa_cons (pe_fld (pv 0) rfl) pa_nil))), ?_⟩
    refine ⟨_, rfl, x, C, dx, _, _, rfl, h1, T.cl, T.nR, bf_rd _ _, R, _, rfl, .inl (.inl (.inl h3)), fun p np => ?_⟩
    exact q _ p (sameU np) np upd_same
theorem scBkEq : FnScope ["self", "other"] ["self", "other"] (defScope sBkEq) := ⟨rfl, rfl, rfl, by decide +kernel, rfl, by decide +kernel, by decide +kernel⟩
theorem ok_bkEq {f : Addr} {fd : FuncData} (F : Fun K "__eq__" "Book.__eq__" sBkEq f fd) (B : Bi mg) (T : BookTxt K mg C) (N : NoBook K C) : FnOk P w K mg base CX0 1 f fd ["self", "other"] (spBkEq K C) := by
  refine F.ok scBkEq (fun vs H Q E h => ?_) (fun cdv A outer s H vs Q E hr h => ?_)
  · obtain ⟨f, x, y, ds, us, rs, rfl, _⟩ := h
    rfl
  · obtain ⟨f, x, y, ds, us, rs, rfl, ⟨dx, A, R, h1, h2, h3, h4, h5, h6⟩, h⟩ := h
    refine ⟨_, pss_one (ps_ret (pe_and (pe_callB call_isi (by rfl) B.isinstance (by decide +kernel) (pa_cons (pv 1) (pa_cons (pe_glob (v := .ref C) (by rfl) T.mgC rfl) pa_nil)))
      (pe_and (pe_cmpR (op_eqD hr.units) (pe_fld (pv 0) rfl) (pe_fld (pv 1) rfl) (nomark _)) (pe_one (pe_cmpR (op_eqD hr.units) (pe_fld (pv 0) rfl) (pe_fld (pv 1) rfl) (nomark _)))))), ?_⟩
    rcases h with ⟨g, z, ds', us', rs', rfl, ⟨dx', A', R', k1, k2, k3, k4, k5, k6⟩, q⟩ | ⟨Ty, hT, hm, q⟩
    · refine ⟨_, rfl, _, .ref C, _, _, _, rfl, .own C, .base (.ins k1 T.ic.cl T.ic.ha T.ic.hn T.ic.htk T.ic.hm), T.ic.me, true, rfl, iteT ?_⟩
      refine ⟨_, rfl, x, C, dx, _, _, rfl, h1, T.cl, T.nD, bf_dem _ _, _, rfl, z, C, dx', _, _, rfl, k1, T.cl, T.nD, bf_dem _ _, _, _, dp_dI (.inl (.inl h2)), dp_dI (.inl (.inl k2)), shp_dI _, shp_dI _, _, rfl, ?_⟩
      rw [eqv_dI]
      by_cases e : ds = ds'
      · rw [decide_eq_true e]
        refine iteT ?_
        refine ⟨_, rfl, x, C, dx, _, _, rfl, h1, T.cl, T.nR, bf_rd _ _, _, rfl, z, C, dx', _, _, rfl, k1, T.cl, T.nR, bf_rd _ _, _, _, dp_dRs (.inl (.inl h3)) h6, dp_dRs (.inl (.inl k3)) k6, shp_dRs _, shp_dRs _, ?_⟩
        rw [eqv_dRs]
        rw [decide_eq_true e, Bool.true_and] at q
        exact q
      · rw [decide_eq_false e]
        refine iteF ?_
        rw [decide_eq_false e, Bool.false_and] at q
        exact q
    · exact ⟨_, rfl, y, .ref C, _, _, _, rfl, .own C, hT, (N Ty hm).1, false, rfl, iteF q⟩
end
end Ew
namespace Ew
open PySem PySem.Spec PyProof.Rows L2
abbrev sOth : Stmt := (top 22)
/-- a pair of lists, of which none is excluded: demands, readers -/
def PairV (K : PySem.W.Frag) (ex : Addr → Prop) (H : Hp) (v : V) : Prop := ∃ (l A R : Addr) (ds : List Int) (us : List V) (rs : List (Int × List Int)), v = .ref l ∧ ¬ ex l ∧ ¬ ex A ∧ ¬ ex R ∧ H l = some (.lst [.ref A, .ref R]) ∧
  H A = some (.lst (ds.map V.int)) ∧ H R = some (.lst us) ∧ Paired (RdT K H) us rs ∧ DsOk ds rs
section
variable {K : PySem.W.Frag} {H H' : Hp} {ex ex' : Addr → Prop} {v : V} {f D : Addr}
theorem PairV.mono (h : PairV K ex H v) (m : ∀ b, ex' b → ex b) : PairV K ex' H v := by
  obtain ⟨l, A, R, ds, us, rs, e, n1, n2, n3, h1, h2, h3, h4, h5⟩ := h
  exact ⟨l, A, R, ds, us, rs, e, fun z => n1 (m _ z), fun z => n2 (m _ z), fun z => n3 (m _ z), h1, h2, h3, h4, h5⟩
theorem PairV.same (h : PairV K ex H v) (s : Same H H') : PairV K ex H' v := by
  obtain ⟨l, A, R, ds, us, rs, e, n1, n2, n3, h1, h2, h3, h4, h5⟩ := h
  exact ⟨l, A, R, ds, us, rs, e, n1, n2, n3, s _ _ h1, s _ _ h2, s _ _ h3, L2.Paired.mapP h4 fun _ _ z => z.same s, h5⟩
theorem PairV.ext (h : PairV K ex H v) (hf : FeedAt H f) (s : Ext1 f H H') (m : ex f) : PairV K ex H' v := by
  obtain ⟨l, A, R, ds, us, rs, e, n1, n2, n3, h1, h2, h3, h4, h5⟩ := h
  have nf : ∀ b, ¬ ex b → b ≠ f := fun b n z => n (z ▸ m)
  exact ⟨l, A, R, ds, us, rs, e, n1, n2, n3, s.1 _ _ (nf _ n1) h1, s.1 _ _ (nf _ n2) h2, s.1 _ _ (nf _ n3) h3, L2.Paired.mapP h4 fun _ _ z => z.ext s hf, h5⟩
theorem PairV.upd {xs : List V} {o : HO} (h : PairV K ex H v) (m : ex D) (hD : H D = some (.lst xs)) : PairV K ex (upd H D o) v := by
  obtain ⟨l, A, R, ds, us, rs, e, n1, n2, n3, h1, h2, h3, h4, h5⟩ := h
  have nf : ∀ b, ¬ ex b → b ≠ D := fun b n z => n (z ▸ m)
  exact ⟨l, A, R, ds, us, rs, e, n1, n2, n3, by rw [upd_ne (nf _ n1)]; exact h1, by rw [upd_ne (nf _ n2)]; exact h2, by rw [upd_ne (nf _ n3)]; exact h3, L2.Paired.mapP h4 fun _ _ z => RdT.upd hD z, h5⟩
theorem PairV.new {o : HO} (h : PairV K ex H v) (n : H D = none) : PairV K (fun b => ex b ∨ b = D) (L2.upd H D o) v := by
  have s : Same H (L2.upd H D o) := sameU n
  obtain ⟨l, A, R, ds, us, rs, e, n1, n2, n3, h1, h2, h3, h4, h5⟩ := h
  have nf : ∀ b u, H b = some u → b ≠ D := fun b u e => ne_of_none e n
  exact ⟨l, A, R, ds, us, rs, e, fun z => z.elim n1 (nf _ _ h1), fun z => z.elim n2 (nf _ _ h2), fun z => z.elim n3 (nf _ _ h3), s _ _ h1, s _ _ h2, s _ _ h3, L2.Paired.mapP h4 fun _ _ z => z.same s, h5⟩
end
/-- the found list at D behind H0 -/
structure Fd (K : PySem.W.Frag) (f : Addr) (H0 H1 : Hp) (D : Addr) (vs : List V) (n : Nat) : Prop where
  e : Ext1 f H0 H1
  nD : H0 D = none
  nf : D ≠ f
  at_ : H1 D = some (.lst vs)
  len : vs.length ≤ n
  all : ∀ v ∈ vs, PairV K (fun b => b = f ∨ b = D) H1 v
theorem Fd.ext {K : PySem.W.Frag} {f D : Addr} {H0 H1 H2 : Hp} {vs : List V} {n : Nat} (h : Fd K f H0 H1 D vs n) (e : Ext1 f H1 H2) : Fd K f H0 H2 D vs n :=
  ⟨h.e.trans e, h.nD, h.nf, e.1 _ _ h.nf h.at_, h.len, fun v hv => (h.all v hv).ext h.e.feed e (.inl rfl)⟩
theorem Fd.push {K : PySem.W.Frag} {f D : Addr} {H0 H1 : Hp} {vs : List V} {n : Nat} {v : V} (h : Fd K f H0 H1 D vs n) (p : PairV K (fun b => b = f ∨ b = D) H1 v) : Fd K f H0 (upd H1 D (.lst (vs ++ [v]))) D (vs ++ [v]) (n + 1) := by
  refine ⟨h.e.own h.nD h.nf, h.nD, h.nf, upd_same, by rw [List.length_append]; have := h.len; simp; omega, fun u hu => ?_⟩
  rcases List.mem_append.mp hu with q | q
  · exact (h.all u q).upd (.inr rfl) h.at_
  · rw [List.mem_singleton.mp q]
    exact p.upd (.inr rfl) h.at_
def spOth (K : PySem.W.Frag) : Sp := fun vs H Q _ => ∃ (f A R : Addr) (ds : List Int) (us : List V) (rs : List (Int × List Int)), vs = [.ref f, .ref A, .ref R] ∧ FeedAt H f ∧ H A = some (.lst (ds.map V.int)) ∧ H R = some (.lst us) ∧ A ≠ f ∧ R ≠ f ∧ Paired (RdT K H) us rs ∧ DsOk ds rs ∧
  ∀ H' p xs, Ext1 f H H' → H' p = some (.lst xs) → xs.length ≤ 100 → (∀ v ∈ xs, PairV K (fun b => b = f) H' v) → Q (.ref p) H'
theorem dsOk_of {ds ds' : List Int} {rs rs' : List (Int × List Int)} (h : DsOk ds rs) (n1 : ds.length ≤ ds'.length) (n6 : ds'.length ≤ 6) (d6 : ∀ d ∈ ds', 0 ≤ d ∧ d ≤ 6) (r6 : rs'.length ≤ 6) (hr : ∀ r ∈ rs', RdOk ds.length r) : DsOk ds' rs' :=
  ⟨Nat.le_trans h.n1 n1, n6, d6, r6, fun r q => by
    obtain ⟨a, b, c, d⟩ := hr r q
    exact ⟨a, b, c, fun x hx => by have := d x hx; omega⟩⟩
section
variable {P : Program} {w : World} {K : PySem.W.Frag} {mg : Str → Option Value} {base : Heap}
theorem scOth : FnScope ["feed", "demands", "readers", "found", "one", "at", "spot", "limit", "may"] ["feed", "demands", "readers"] (defScope sOth) := ⟨rfl, rfl, rfl, by decide +kernel, rfl, by decide +kernel, by decide +kernel⟩
theorem ok_oth {f : Addr} {fd : FuncData} (F : Fun K "_law_others" "_law_others" sOth f fd) (L : Low K mg) : FnOk P w K mg base CX0 2 f fd ["feed", "demands", "readers"] (spOth K) := by
  obtain ⟨B, _, ⟨fT, fdT, FT, bT, gT⟩, _⟩ := L
  have GT : FnOk P w K mg base CX0 1 fT fdT ["feed", "many"] spTake := ok_take FT B
  refine F.ok scOth (fun vs H Q E h => ?_) (fun cdv A outer s H vs Q E hr h => ?_)
  · obtain ⟨a, A, R, ds, us, rs, rfl, _⟩ := h
    rfl
  · obtain ⟨a, A, R, ds, us, rs, rfl, hF, hA, hR, fA, fR, hP, ok, q⟩ := h
    refine ⟨_, pss_cons (ps_set (i := 3) scOth.nd rfl (.inl rfl) (pe_lst (pa_cons (pe_lst (pa_cons (pv 1) (pa_cons (pv 2) pa_nil))) (pa_cons (pe_lst (pa_cons (pe_revL (pv 1)) (pa_cons (pv 2) pa_nil)))
        (pa_cons (pe_lst (pa_cons (pv 1) (pa_cons (pe_revL (pv 2)) pa_nil))) (pa_cons (pe_lst (pa_cons (pv 1) (pa_cons (pe_slice sl_list (pv 2) (po_some pe_int) po_none) pa_nil))) pa_nil))))))
      (pss_cons (ps_expr (pe_bm PySem.F.plainAttrs_list PySem.F.slot_list_append PySem.F.type_list_append mt_append (pv 3) (pa_cons (pe_lst (pa_cons
          (pe_lc (own := [("one", 4)]) (g := gName 4) (tt := tYes) rfl scOth.nd (pi_list (pv 1)) (blkOk_by (own := [("one", 4)]) (N := ["feed", "demands", "readers", "found", "one", "at", "spot", "limit", "may"]) (sc := defScope sOth) (by decide +kernel))
            (fun _ _ _ _ _ => pg_name (i := 4) scOth.nd rfl (.inl rfl)) (fun _ _ _ _ _ => pts_nil) (fun _ _ _ _ _ => pe_op op_mod (pe_callTy call_int1 (by rfl) B.int (by decide +kernel) (pa_cons (pe_op op_add (pv 4) pe_int) pa_nil)) pe_int))
          (pa_cons (pe_slice sl_list (pv 2) (po_some pe_int) po_none) pa_nil))) pa_nil)))
      (pss_cons (ps_set (i := 5) scOth.nd rfl (.inl rfl) (pe_call GT hr (by rfl) gT FT.kp bT .nil pass0 (pa_cons (pv 0) (pa_cons (pe_callB call_len_seq (by rfl) B.len PySem.boot_len (pa_cons (pv 1) pa_nil)) pa_nil))))
      (pss_cons (ps_expr (pe_bm PySem.F.plainAttrs_list PySem.F.slot_list_append PySem.F.type_list_append mt_append (pv 3) (pa_cons (pe_lst (pa_cons
          (pe_op op_cat (pe_op op_cat (pe_slice sl_list (pv 1) po_none (po_some (pv 5))) (pe_lst (pa_cons (pe_op op_mod (pe_callTy call_int1 (by rfl) B.int (by decide +kernel) (pa_cons (pe_op op_add (pe_ix ix_list (pv 1) (pv 5) (fun _ _ => rfl)) pe_int) pa_nil)) pe_int) pa_nil)))
            (pe_slice sl_list (pv 1) (po_some (pe_op op_add (pv 5) pe_int)) po_none)) (pa_cons (pv 2) pa_nil))) pa_nil)))
      (C8.pss_cut (ps_if (pt_cmpR op_lt (pe_callB call_len_seq (by rfl) B.len PySem.boot_len (pa_cons (pv 1) pa_nil)) pe_int (nomark _))
          (pss_one (ps_set (i := 3) scOth.nd rfl (.inl rfl) (pe_op op_cat (pv 3) (pe_lst (pa_cons (pe_lst (pa_cons (pe_op op_cat (pv 1) (pe_lst (pa_cons pe_int pa_nil))) (pa_cons (pv 2) pa_nil)))
            (pa_cons (pe_lst (pa_cons (pe_op op_cat (pv 1) (pe_lst (pa_cons pe_int pa_nil))) (pa_cons (pe_slice sl_list (pv 2) (po_some pe_int) po_none) pa_nil))) pa_nil)))))) pss_nil)
      (C8.pss_cut (ps_if (pt_cmpR (op_neD hr.units) (pv 2) (pe_lst pa_nil) (nomark _))
          (pss_cons (ps_set (i := 6) scOth.nd rfl (.inl rfl) (pe_call GT hr (by rfl) gT FT.kp bT .nil pass0 (pa_cons (pv 0) (pa_cons (pe_callB call_len_seq (by rfl) B.len PySem.boot_len (pa_cons (pv 2) pa_nil)) pa_nil))))
          (pss_cons (ps_asg (pe_ix ix_list (pv 2) (pv 6) (fun _ _ => rfl)) (pg_tup (by rfl) (pgs_cons (pg_name (i := 7) scOth.nd rfl (.inl rfl)) (pgs_cons (pg_name (i := 8) scOth.nd rfl (.inl rfl)) pgs_nil))))
          (pss_cons (ps_expr (pe_bm PySem.F.plainAttrs_list PySem.F.slot_list_append PySem.F.type_list_append mt_append (pv 3) (pa_cons (pe_lst (pa_cons (pv 1) (pa_cons
              (pe_op op_cat (pe_op op_cat (pe_slice sl_list (pv 2) po_none (po_some (pv 6))) (pe_lst (pa_cons (pe_tup (pa_cons (pe_op op_mod (pe_callTy call_int1 (by rfl) B.int (by decide +kernel) (pa_cons (pe_op op_add (pv 7) pe_int) pa_nil)) pe_int) (pa_cons (pv 8) pa_nil))) pa_nil)))
                (pe_slice sl_list (pv 2) (po_some (pe_op op_add (pv 6) pe_int)) po_none)) pa_nil))) pa_nil)))
          (pss_one (ps_expr (pe_bm PySem.F.plainAttrs_list PySem.F.slot_list_append PySem.F.type_list_append mt_append (pv 3) (pa_cons (pe_lst (pa_cons (pv 1) (pa_cons
              (pe_op op_cat (pe_op op_cat (pe_slice sl_list (pv 2) po_none (po_some (pv 6))) (pe_lst (pa_cons (pe_tup (pa_cons (pv 7) (pa_cons (pe_slice sl_tupA (pv 8) (po_some pe_int) po_none) pa_nil))) pa_nil)))
                (pe_slice sl_list (pv 2) (po_some (pe_op op_add (pv 6) pe_int)) po_none)) pa_nil))) pa_nil))))))) pss_nil)
      (pss_one (ps_ret (pv 3)))))))), ?_⟩
    have n1 := ok.n1
    have n6 := ok.n6
    have r6 := ok.r6
    have d6 := ok.d6
    have hul : us.length = rs.length := Paired.len hP
    have two : 2 ≤ sizeLine := by decide
    -- found = [[demands, readers], ..]
    refine ⟨_, rfl, _, rfl, two, fun l1 n1' => ?_⟩
    have s1 : Same H (upd H l1 (.lst [.ref A, .ref R])) := sameU n1'
    have p1 : PairV K (fun b => b = a) (upd H l1 (.lst [.ref A, .ref R])) (.ref l1) := ⟨l1, A, R, ds, us, rs, rfl, hF.ne n1', fA, fR, upd_same, s1 _ _ hA, s1 _ _ hR, L2.Paired.mapP hP fun _ _ z => z.same s1, ok⟩
    generalize upd H l1 (.lst [.ref A, .ref R]) = H1 at *
    refine ⟨_, rfl, A, _, rfl, .inl (.inl (s1 _ _ hA)), fun A2 n2 => ?_⟩
    have fA2 : A2 ≠ a := hF.ne (s1.free n2)
    have s2 : Same H1 (upd H1 A2 (.lst (ds.map V.int).reverse)) := sameU n2
    have hA2 : upd H1 A2 (.lst (ds.map V.int).reverse) A2 = some (.lst (ds.reverse.map V.int)) := by rw [upd_same, List.map_reverse]
    generalize upd H1 A2 (.lst (ds.map V.int).reverse) = H2 at *
    refine ⟨_, rfl, two, fun l2 n3 => ?_⟩
    have s3 : Same H2 (upd H2 l2 (.lst [.ref A2, .ref R])) := sameU n3
    have t3 : Same H (upd H2 l2 (.lst [.ref A2, .ref R])) := s1.trans (s2.trans s3)
    have p2 : PairV K (fun b => b = a) (upd H2 l2 (.lst [.ref A2, .ref R])) (.ref l2) := ⟨l2, A2, R, ds.reverse, us, rs, rfl, hF.ne ((s1.trans s2).free n3), fA2, fR, upd_same, s3 _ _ hA2, t3 _ _ hR, L2.Paired.mapP hP fun _ _ z => z.same t3,
      dsOk_of ok (by simp) (by simpa using n6) (fun d hd => d6 d (List.mem_reverse.mp hd)) r6 ok.ok⟩
    have p1' := p1.same (s2.trans s3)
    generalize upd H2 l2 (.lst [.ref A2, .ref R]) = H3 at *
    refine ⟨_, rfl, _, rfl, R, us, rfl, .inl (.inl (t3 _ _ hR)), fun R3 n4 => ?_⟩
    have fR3 : R3 ≠ a := hF.ne (t3.free n4)
    have s4 : Same H3 (upd H3 R3 (.lst us.reverse)) := sameU n4
    have hR3 : upd H3 R3 (.lst us.reverse) R3 = some (.lst us.reverse) := upd_same
    generalize upd H3 R3 (.lst us.reverse) = H4 at *
    refine ⟨two, fun l3 n5 => ?_⟩
    have s5 : Same H4 (upd H4 l3 (.lst [.ref A, .ref R3])) := sameU n5
    have t5 : Same H (upd H4 l3 (.lst [.ref A, .ref R3])) := t3.trans (s4.trans s5)
    have p3 : PairV K (fun b => b = a) (upd H4 l3 (.lst [.ref A, .ref R3])) (.ref l3) := ⟨l3, A, R3, ds, us.reverse, rs.reverse, rfl, hF.ne ((t3.trans s4).free n5), fA, fR3, upd_same, t5 _ _ hA, s5 _ _ hR3, Paired.rev (L2.Paired.mapP hP fun _ _ z => z.same t5),
      dsOk_of ok (Nat.le_refl _) n6 d6 (by simpa using r6) (fun r q => ok.ok r (List.mem_reverse.mp q))⟩
    have p1'' := p1'.same (s4.trans s5)
    have p2'' := p2.same (s4.trans s5)
    generalize upd H4 l3 (.lst [.ref A, .ref R3]) = H5 at *
    refine ⟨_, rfl, _, rfl, 1, rfl, R, us, rfl, .inl (.inl (t5 _ _ hR)), fun R4 n6' => ?_⟩
    have fR4 : R4 ≠ a := hF.ne (t5.free n6')
    have ec : cutV us (some 1) none = us.drop 1 := cut_from us 1
    rw [ec]
    have s6 : Same H5 (upd H5 R4 (.lst (us.drop 1))) := sameU n6'
    have hR4 : upd H5 R4 (.lst (us.drop 1)) R4 = some (.lst (us.drop 1)) := upd_same
    generalize upd H5 R4 (.lst (us.drop 1)) = H6 at *
    refine ⟨two, fun l4 n7 => ?_⟩
    have s7 : Same H6 (upd H6 l4 (.lst [.ref A, .ref R4])) := sameU n7
    have t7 : Same H (upd H6 l4 (.lst [.ref A, .ref R4])) := t5.trans (s6.trans s7)
    have okd : DsOk ds (rs.drop 1) := dsOk_of ok (Nat.le_refl _) n6 d6 (by simp; omega) (fun r q => ok.ok r (List.mem_of_mem_drop q))
    have p4 : PairV K (fun b => b = a) (upd H6 l4 (.lst [.ref A, .ref R4])) (.ref l4) := ⟨l4, A, R4, ds, us.drop 1, rs.drop 1, rfl, hF.ne ((t5.trans s6).free n7), fA, fR4, upd_same, t7 _ _ hA, s7 _ _ hR4, Paired.drop 1 (L2.Paired.mapP hP fun _ _ z => z.same t7), okd⟩
    have p1''' := p1''.same (s6.trans s7)
    have p2''' := p2''.same (s6.trans s7)
    have p3''' := p3.same (s6.trans s7)
    generalize upd H6 l4 (.lst [.ref A, .ref R4]) = H7 at *
    refine ⟨(by show 4 ≤ sizeLine; decide), fun D nD => ?_⟩
    have F1 : Fd K a H (upd H7 D (.lst [.ref l1, .ref l2, .ref l3, .ref l4])) D [.ref l1, .ref l2, .ref l3, .ref l4] 4 := by
      refine ⟨(Ext1.same hF t7).new nD, t7.free nD, hF.ne (t7.free nD), upd_same, Nat.le_refl _, fun v hv => ?_⟩
      simp only [List.mem_cons, List.not_mem_nil, or_false] at hv
      rcases hv with rfl | rfl | rfl | rfl
      · exact p1'''.new nD
      · exact p2'''.new nD
      · exact p3'''.new nD
      · exact p4.new nD
    generalize upd H7 D (.lst [.ref l1, .ref l2, .ref l3, .ref l4]) = H8 at *
    generalize [V.ref l1, V.ref l2, V.ref l3, V.ref l4] = v8 at *
    clear p1 p2 p3 p4 p1' p1'' p1''' p2'' p2''' p3'''
    -- found.append([[..], readers[1:]])
    have nAD : ¬ (A = a ∨ A = D) := fun z => z.elim fA fun e => by rw [e, F1.nD] at hA; cases hA
    have nRD : ¬ (R = a ∨ R = D) := fun z => z.elim fR fun e => by rw [e, F1.nD] at hR; cases hR
    have hA8 : H8 A = some (.lst (ds.map V.int)) := F1.e.1 _ _ fA hA
    have hR8 : H8 R = some (.lst us) := F1.e.1 _ _ fR hR
    refine ⟨_, rfl, .inl ⟨rfl, _, .inl (.inl F1.at_)⟩, ?_⟩
    refine ⟨_, rfl, A, rfl, ⟨_, .inl (.inl hA8)⟩, fun A9 n9 => ?_⟩
    refine lc_list (K := K) (a := A) (xs := ds.map V.int) (fun i H' => Same H8 H' ∧ H' A9 = some (.lst (((ds.take i).map fun d => (d + 1) % 7).map V.int))) ⟨sameU n9, upd_same⟩ (fun i H' _ ⟨e, _⟩ => .inl (.inl (e _ _ hA8))) ?_ ?_
    · rintro i x H9 hx ⟨s9, h9⟩
      obtain ⟨d, hd, rfl⟩ : ∃ d, ds[i]? = some d ∧ x = V.int d := by
        rw [List.getElem?_map] at hx
        cases e : ds[i]? with
        | none => rw [e] at hx; cases hx
        | some d => rw [e] at hx; exact ⟨d, rfl, (Option.some.inj hx).symm⟩
      refine ⟨rfl, ?_⟩
      dsimp only [tYes]
      refine iteT ?_
      refine ⟨_, rfl, _, _, rfl, rfl, .inl ⟨_, rfl, _, _, rfl, rfl, (by show (0 : Int) < 7; decide), _, h9, szl (by rw [List.length_map, List.length_map, List.length_take]; omega), same_own s9 n9, ?_⟩⟩
      rw [upd_same, take_more hd, List.map_append, List.map_append]
      rfl
    rintro H9 ⟨s9, h9⟩
    rw [List.length_map, List.take_length] at h9
    have e9 : Ext1 a H8 H9 := .same F1.e.feed s9
    refine ⟨_, rfl, 1, rfl, R, us, rfl, .inl (.inl (s9 _ _ hR8)), fun R9 m9 => ?_⟩
    rw [ec]
    refine ⟨two, fun l9 k9 => ?_⟩
    have sR9 : Same H9 (upd H9 R9 (.lst (us.drop 1))) := sameU m9
    have hR9 : upd H9 R9 (.lst (us.drop 1)) R9 = some (.lst (us.drop 1)) := upd_same
    generalize upd H9 R9 (.lst (us.drop 1)) = H10 at *
    have sl9 : Same H10 (upd H10 l9 (.lst [.ref A9, .ref R9])) := sameU k9
    have exNew : ∀ (Hx : Hp) (p : Addr), Same H8 Hx → Hx p = none → ¬ (p = a ∨ p = D) := fun Hx p sx nx z => z.elim (F1.e.feed.ne (sx.free nx)) fun e => by
      have := sx _ _ F1.at_
      rw [← e, nx] at this; cases this
    have F2 := (F1.ext (.same F1.e.feed (s9.trans (sR9.trans sl9)))).push (v := .ref l9) ⟨l9, A9, R9, _, us.drop 1, rs.drop 1, rfl, exNew H10 _ (s9.trans sR9) k9, exNew H8 _ (Same.refl _) n9, exNew H9 _ s9 m9, upd_same, (sR9.trans sl9) _ _ h9, sl9 _ _ hR9,
      Paired.drop 1 (L2.Paired.mapP hP fun _ _ z => (z.ext F1.e hF).same (s9.trans (sR9.trans sl9))), dsOk_of okd (by simp) (by simpa using n6) (fun d hd => by
        obtain ⟨z, _, rfl⟩ := List.mem_map.mp hd
        exact ⟨Int.emod_nonneg _ (by decide), by have := Int.emod_lt_of_pos (z + 1) (show (0 : Int) < 7 by decide); omega⟩) okd.r6 okd.ok⟩
    have hD11 : upd H10 l9 (.lst [.ref A9, .ref R9]) D = some (.lst v8) := (s9.trans (sR9.trans sl9)) _ _ F1.at_
    refine ⟨D, _, _, rfl, rfl, hD11, szl (by have := F1.len; omega), ?_⟩
    generalize upd (upd H10 l9 (.lst [.ref A9, .ref R9])) D (.lst (v8 ++ [.ref l9])) = H12 at *
    generalize v8 ++ [V.ref l9] = v12 at *
    clear exNew
    have hA12 : H12 A = some (.lst (ds.map V.int)) := F2.e.1 _ _ fA hA
    have hR12 : H12 R = some (.lst us) := F2.e.1 _ _ fR hR
    -- at
    refine ⟨_, rfl, _, rfl, A, _, rfl, .inl (.inl (.inl hA12)), a, _, rfl, F2.e.feed, by rw [List.length_map]; omega, by rw [List.length_map]; omega, fun H13 k e13 k0 k1 => ?_⟩
    rw [List.length_map] at k1
    obtain ⟨j, rfl⟩ : ∃ j : Nat, k = (j : Int) := ⟨k.toNat, by omega⟩
    have hj : j < ds.length := by omega
    have F3 := F2.ext e13
    have hA13 : H13 A = some (.lst (ds.map V.int)) := F3.e.1 _ _ fA hA
    have hR13 : H13 R = some (.lst us) := F3.e.1 _ _ fR hR
    have ej : ((j : Int) + 1) = (((j + 1 : Nat)) : Int) := by omega
    have exN : ∀ (Hx : Hp) (p : Addr), Same H13 Hx → Hx p = none → ¬ (p = a ∨ p = D) := fun Hx p sx nx z => z.elim (F3.e.feed.ne (sx.free nx)) fun e => by
      have := sx _ _ F3.at_
      rw [← e, nx] at this; cases this
    -- found.append([demands[:at] + [..] + demands[at + 1:], readers])
    refine ⟨_, rfl, .inl ⟨rfl, _, .inl (.inl F3.at_)⟩, ?_⟩
    refine ⟨_, rfl, _, rfl, _, rfl, A, _, rfl, .inl (.inl hA13), fun q1 g1 => ?_⟩
    rw [cut_to]
    have t1 : Same H13 (upd H13 q1 (.lst ((ds.map V.int).take j))) := sameU g1
    have z1 : upd H13 q1 (.lst ((ds.map V.int).take j)) q1 = some (.lst ((ds.map V.int).take j)) := upd_same
    generalize upd H13 q1 (.lst ((ds.map V.int).take j)) = G1 at *
    have hjs : (ds.map V.int)[j]? = some (.int ds[j]) := by simp [hj]
    refine ⟨_, rfl, _, rfl, A, _, _, _, rfl, rfl, .inl (.inl (t1 _ _ hA13)), atI_nat hjs, _, _, rfl, rfl, .inl ⟨_, rfl, _, _, rfl, rfl, (by show (0 : Int) < 7; decide), (by show 1 ≤ sizeLine; decide), fun q2 g2 => ?_⟩⟩
    have t2 : Same G1 (upd G1 q2 (.lst [.int ((ds[j] + 1) % 7)])) := sameU g2
    have z2 : upd G1 q2 (.lst [V.int ((ds[j] + 1) % 7)]) q2 = some (.lst [.int ((ds[j] + 1) % 7)]) := upd_same
    refine ⟨q1, q2, _, _, rfl, rfl, t2 _ _ z1, z2, szL (by simp; omega), fun q3 g3 => ?_⟩
    have t3' : Same (upd G1 q2 (.lst [.int ((ds[j] + 1) % 7)])) (upd (upd G1 q2 (.lst [.int ((ds[j] + 1) % 7)])) q3 (.lst ((ds.map V.int).take j ++ [.int ((ds[j] + 1) % 7)]))) := sameU g3
    have z3 : upd (upd G1 q2 (.lst [.int ((ds[j] + 1) % 7)])) q3 (.lst ((ds.map V.int).take j ++ [V.int ((ds[j] + 1) % 7)])) q3 = some (.lst ((ds.map V.int).take j ++ [.int ((ds[j] + 1) % 7)])) := upd_same
    have u3 := t1.trans (t2.trans t3')
    generalize upd (upd G1 q2 (.lst [.int ((ds[j] + 1) % 7)])) q3 (.lst ((ds.map V.int).take j ++ [.int ((ds[j] + 1) % 7)])) = G3 at *
    refine ⟨_, rfl, _, rfl, _, _, rfl, rfl, _, rfl, A, _, rfl, .inl (.inl (u3 _ _ hA13)), fun q4 g4 => ?_⟩
    rw [show cutV (ds.map V.int) (some ((j : Int) + 1)) none = (ds.map V.int).drop (j + 1) by rw [ej]; exact cut_from _ _]
    have t4 : Same G3 (upd G3 q4 (.lst ((ds.map V.int).drop (j + 1)))) := sameU g4
    have z4 : upd G3 q4 (.lst ((ds.map V.int).drop (j + 1))) q4 = some (.lst ((ds.map V.int).drop (j + 1))) := upd_same
    generalize upd G3 q4 (.lst ((ds.map V.int).drop (j + 1))) = G4 at *
    refine ⟨q3, q4, _, _, rfl, rfl, t4 _ _ z3, z4, szL (by simp; omega), fun q5 g5 => ?_⟩
    have hds' : (ds.map V.int).take j ++ [V.int ((ds[j] + 1) % 7)] ++ (ds.map V.int).drop (j + 1) = (ds.take j ++ [(ds[j] + 1) % 7] ++ ds.drop (j + 1)).map V.int := by
      rw [List.map_append, List.map_append, List.map_take, List.map_drop]
      rfl
    rw [hds']
    have t5' : Same G4 (upd G4 q5 (.lst ((ds.take j ++ [(ds[j] + 1) % 7] ++ ds.drop (j + 1)).map V.int))) := sameU g5
    have z5 : upd G4 q5 (.lst ((ds.take j ++ [(ds[j] + 1) % 7] ++ ds.drop (j + 1)).map V.int)) q5 = some (.lst ((ds.take j ++ [(ds[j] + 1) % 7] ++ ds.drop (j + 1)).map V.int)) := upd_same
    have nex5 := exN G4 q5 (u3.trans t4) g5
    have u5 := u3.trans (t4.trans t5')
    have hlen5 : (ds.take j ++ [(ds[j] + 1) % 7] ++ ds.drop (j + 1)).length = ds.length := by simp; omega
    have hb5 : ∀ d ∈ ds.take j ++ [(ds[j] + 1) % 7] ++ ds.drop (j + 1), 0 ≤ d ∧ d ≤ 6 := fun d hd => by
      rcases List.mem_append.mp hd with h | h
      · rcases List.mem_append.mp h with h | h
        · exact d6 d (List.mem_of_mem_take h)
        · rw [List.mem_singleton.mp h]
          exact ⟨Int.emod_nonneg _ (by decide), by have := Int.emod_lt_of_pos (ds[j] + 1) (show (0 : Int) < 7 by decide); omega⟩
      · exact d6 d (List.mem_of_mem_drop h)
    generalize ds.take j ++ [(ds[j] + 1) % 7] ++ ds.drop (j + 1) = ds5 at *
    generalize upd G4 q5 (.lst (ds5.map V.int)) = G5 at *
    refine ⟨_, rfl, two, fun l5 h5 => ?_⟩
    have t6 : Same G5 (upd G5 l5 (.lst [.ref q5, .ref R])) := sameU h5
    have F4 := (F3.ext (.same F3.e.feed (u5.trans t6))).push (v := .ref l5) ⟨l5, q5, R, ds5, us, rs, rfl, exN G5 _ u5 h5, nex5, nRD, upd_same, t6 _ _ z5, (u5.trans t6) _ _ hR13,
      L2.Paired.mapP hP fun _ _ z => (z.ext F3.e hF).same (u5.trans t6), dsOk_of ok (by omega) (by omega) hb5 r6 ok.ok⟩
    refine ⟨D, _, _, rfl, rfl, (u5.trans t6) _ _ F3.at_, szl (by have := F3.len; omega), ?_⟩
    generalize upd (upd G5 l5 (.lst [.ref q5, .ref R])) D (.lst (v12 ++ [.ref l5])) = H14 at *
    generalize v12 ++ [V.ref l5] = v14 at *
    clear exN nex5 u5 u3 t4 t5' t6 z1 z2 z3 z4 z5 F3 F2 F1
    have hA14 : H14 A = some (.lst (ds.map V.int)) := F4.e.1 _ _ fA hA
    have hR14 : H14 R = some (.lst us) := F4.e.1 _ _ fR hR
    -- if len(demands) < 6
    refine ⟨fun σ H' => ∃ (D : Addr) (xs : List V) (y : Option V), σ = [some (.ref a), some (.ref A), some (.ref R), some (.ref D), y, some (.int j), none, none, none] ∧ Fd K a H H' D xs 8, ?_, ?_⟩
    · refine ⟨_, rfl, A, _, rfl, .inl (.inl (.inl hA14)), _, _, rfl, rfl, _, rfl, ite2 (fun c => ?_) (fun c => ?_)⟩
      · have c6 : ds.length < 6 := by
          have := of_decide_eq_true c
          rw [List.length_map] at this
          omega
        have okA : ∀ rs', (rs' = rs ∨ rs' = rs.drop 1) → DsOk (ds ++ [0]) rs' := fun rs' h => dsOk_of ok (by simp) (by simp; omega) (fun d hd => by
          rcases List.mem_append.mp hd with h | h
          · exact d6 d h
          · rw [List.mem_singleton.mp h]; decide) (by rcases h with rfl | rfl; exact r6; rw [List.length_drop]; omega) (fun r q => by
          rcases h with rfl | rfl
          · exact ok.ok r q
          · exact ok.ok r (List.mem_of_mem_drop q))
        have exN : ∀ (Hx : Hp) (p : Addr), Same H14 Hx → Hx p = none → ¬ (p = a) := fun Hx p sx nx => F4.e.feed.ne (sx.free nx)
        refine ⟨_, rfl, _, rfl, (by show 1 ≤ sizeLine; decide), fun q1 g1 => ?_⟩
        have t1 : Same H14 (upd H14 q1 (.lst [.int 0])) := sameU g1
        refine ⟨A, q1, _, _, rfl, rfl, t1 _ _ hA14, upd_same, szL (by simp; omega), fun q2 g2 => ?_⟩
        have t2 : Same (upd H14 q1 (.lst [.int 0])) (upd (upd H14 q1 (.lst [.int 0])) q2 (.lst (ds.map V.int ++ [.int 0]))) := sameU g2
        have z2 : upd (upd H14 q1 (.lst [.int 0])) q2 (.lst (ds.map V.int ++ [V.int 0])) q2 = some (.lst ((ds ++ [0]).map V.int)) := by rw [upd_same, List.map_append]; rfl
        have x2 := exN _ q2 t1 g2
        have u2 := t1.trans t2
        generalize upd (upd H14 q1 (.lst [.int 0])) q2 (.lst (ds.map V.int ++ [.int 0])) = G2 at *
        refine ⟨_, rfl, two, fun l6 g3 => ?_⟩
        have t3' : Same G2 (upd G2 l6 (.lst [.ref q2, .ref R])) := sameU g3
        have u3 := u2.trans t3'
        have p6 : PairV K (fun b => b = a) (upd G2 l6 (.lst [.ref q2, .ref R])) (.ref l6) := ⟨l6, q2, R, ds ++ [0], us, rs, rfl, exN _ _ u2 g3, x2, fR, upd_same, t3' _ _ z2, u3 _ _ hR14, L2.Paired.mapP hP fun _ _ z => (z.ext F4.e hF).same u3, okA _ (.inl rfl)⟩
        generalize upd G2 l6 (.lst [.ref q2, .ref R]) = G3 at *
        refine ⟨_, rfl, (by show 1 ≤ sizeLine; decide), fun q3 g4 => ?_⟩
        have t4 : Same G3 (upd G3 q3 (.lst [.int 0])) := sameU g4
        refine ⟨A, q3, _, _, rfl, rfl, (u3.trans t4) _ _ hA14, upd_same, szL (by simp; omega), fun q4 g5 => ?_⟩
        have t5' : Same (upd G3 q3 (.lst [.int 0])) (upd (upd G3 q3 (.lst [.int 0])) q4 (.lst (ds.map V.int ++ [.int 0]))) := sameU g5
        have z4 : upd (upd G3 q3 (.lst [.int 0])) q4 (.lst (ds.map V.int ++ [V.int 0])) q4 = some (.lst ((ds ++ [0]).map V.int)) := by rw [upd_same, List.map_append]; rfl
        have x4 := exN _ q4 (u3.trans t4) g5
        have u5 := t4.trans t5'
        generalize upd (upd G3 q3 (.lst [.int 0])) q4 (.lst (ds.map V.int ++ [.int 0])) = G5 at *
        refine ⟨_, rfl, 1, rfl, R, us, rfl, .inl (.inl ((u3.trans u5) _ _ hR14)), fun q5 g6 => ?_⟩
        rw [ec]
        have t6 : Same G5 (upd G5 q5 (.lst (us.drop 1))) := sameU g6
        have z5 : upd G5 q5 (.lst (us.drop 1)) q5 = some (.lst (us.drop 1)) := upd_same
        have x5 := exN _ q5 (u3.trans u5) g6
        generalize upd G5 q5 (.lst (us.drop 1)) = G6 at *
        refine ⟨two, fun l7 g7 => ?_⟩
        have t7' : Same G6 (upd G6 l7 (.lst [.ref q4, .ref q5])) := sameU g7
        have u7 := u3.trans (u5.trans (t6.trans t7'))
        have p7 : PairV K (fun b => b = a) (upd G6 l7 (.lst [.ref q4, .ref q5])) (.ref l7) := ⟨l7, q4, q5, ds ++ [0], us.drop 1, rs.drop 1, rfl, exN _ _ (u3.trans (u5.trans t6)) g7, x4, x5, upd_same, (t6.trans t7') _ _ z4, t7' _ _ z5, Paired.drop 1 (L2.Paired.mapP hP fun _ _ z => (z.ext F4.e hF).same u7), okA _ (.inr rfl)⟩
        have p6' := p6.same (u5.trans (t6.trans t7'))
        generalize upd G6 l7 (.lst [.ref q4, .ref q5]) = G7 at *
        refine ⟨two, fun m g8 => ?_⟩
        have t8 : Same G7 (upd G7 m (.lst [.ref l6, .ref l7])) := sameU g8
        refine ⟨D, m, _, _, rfl, rfl, (u7.trans t8) _ _ F4.at_, upd_same, szL (by have := F4.len; simp; omega), fun D2 g9 => ?_⟩
        refine ⟨D2, v14 ++ [.ref l6, .ref l7], _, rfl, ?_⟩
        have u8 := u7.trans t8
        refine ⟨(F4.e.trans (.same F4.e.feed u8)).new g9, F4.e.free (u8.free g9), F4.e.feed.ne (u8.free g9), upd_same, by have := F4.len; simp; omega, fun v hv => ?_⟩
        rcases List.mem_append.mp hv with h | h
        · exact (((F4.all v h).mono (fun b e => Or.inl e)).same u8).new g9
        · simp only [List.mem_cons, List.not_mem_nil, or_false] at h
          rcases h with rfl | rfl
          · exact (p6'.same t8).new g9
          · exact (p7.same t8).new g9
      · exact ⟨D, v14, _, rfl, ⟨F4.e, F4.nD, F4.nf, F4.at_, Nat.le_trans F4.len (by decide), F4.all⟩⟩
    clear F4
    rintro σ H15 ⟨D, xs, y, rfl, F5⟩
    have hA15 : H15 A = some (.lst (ds.map V.int)) := F5.e.1 _ _ fA hA
    have hR15 : H15 R = some (.lst us) := F5.e.1 _ _ fR hR
    refine ⟨fun σ H' => ∃ (D : Addr) (xs : List V), σ[3]? = some (some (.ref D)) ∧ Fd K a H H' D xs 10, ?_, ?_⟩
    · refine ⟨_, rfl, Nat.zero_le _, fun z nz => ?_⟩
      have tz : Same H15 (upd H15 z (.lst [])) := sameU nz
      have F6 := F5.ext (.same F5.e.feed tz)
      refine ⟨_, dRs [], dp_dRs (.inl (.inl (tz _ _ hR15))) (L2.Paired.mapP hP fun _ _ y => (y.ext F5.e hF).same tz), .lst (.inl (.inl upd_same)) .nil, shp_dRs _, shp_dRs _, _, rfl, ?_⟩
      rw [eqv_dRs]
      generalize upd H15 z (.lst []) = H16 at *
      have hA16 : H16 A = some (.lst (ds.map V.int)) := F6.e.1 _ _ fA hA
      have hR16 : H16 R = some (.lst us) := F6.e.1 _ _ fR hR
      cases e0 : decide (rs = []) with
      | true => exact iteF ⟨D, xs, rfl, ⟨F6.e, F6.nD, F6.nf, F6.at_, Nat.le_trans F6.len (by decide), F6.all⟩⟩
      | false =>
        refine iteT ?_
        have hne : 0 < rs.length := by
          have := of_decide_eq_false e0
          cases rs with
          | nil => exact absurd rfl this
          | cons _ _ => simp
        refine ⟨_, rfl, _, rfl, R, us, rfl, .inl (.inl (.inl hR16)), a, _, rfl, F6.e.feed, by omega, by omega, fun H17 k e17 k0 k1 => ?_⟩
        obtain ⟨i, rfl⟩ : ∃ i : Nat, k = (i : Int) := ⟨k.toNat, by omega⟩
        have hi : i < us.length := by omega
        have F7 := F6.ext e17
        have hA17 : H17 A = some (.lst (ds.map V.int)) := F7.e.1 _ _ fA hA
        have hR17 : H17 R = some (.lst us) := F7.e.1 _ _ fR hR
        have nRD7 : ¬ (R = a ∨ R = D) := fun z => z.elim fR fun e => by rw [e, F7.nD] at hR; cases hR
        have nAD7 : ¬ (A = a ∨ A = D) := fun z => z.elim fA fun e => by rw [e, F7.nD] at hA; cases hA
        have hP17 : Paired (RdT K H17) us rs := L2.Paired.mapP hP fun _ _ y => y.ext F7.e hF
        obtain ⟨⟨lim, may⟩, hr2, t, m, eu, hT, hM⟩ := Paired.at1 hP17 (show us[i]? = some us[i] by simp [hi])
        have hok := ok.ok _ (List.mem_of_getElem? hr2)
        have ei : ((i : Int) + 1) = (((i + 1 : Nat)) : Int) := by omega
        refine ⟨_, rfl, _, rfl, R, us, _, _, rfl, rfl, .inl (.inl hR17), atI_nat (show us[i]? = some us[i] by simp [hi]), t, _, eu, hT, rfl, _, _, rfl, _, _, rfl, rfl, ?_⟩
        -- a reader changed at its place
        have repl : ∀ (r' : Int × List Int), RdOk ds.length r' → DsOk ds (rs.take i ++ [r'] ++ rs.drop (i + 1)) := fun r' h' => dsOk_of ok (Nat.le_refl _) n6 d6 (by simp; omega) (fun r q => by
          rcases List.mem_append.mp q with h | h
          · rcases List.mem_append.mp h with h | h
            · exact ok.ok r (List.mem_of_mem_take h)
            · rw [List.mem_singleton.mp h]; exact h'
          · exact ok.ok r (List.mem_of_mem_drop h))
        have prs : ∀ (Hx : Hp) (v : V) (r' : Int × List Int), Same H17 Hx → RdT K Hx v r' → Paired (RdT K Hx) (us.take i ++ [v] ++ us.drop (i + 1)) (rs.take i ++ [r'] ++ rs.drop (i + 1)) := fun Hx v r' sx hv =>
          Paired.app (Paired.app (Paired.take i (L2.Paired.mapP hP17 fun _ _ y => y.same sx)) (.cons hv .nil)) (Paired.drop (i + 1) (L2.Paired.mapP hP17 fun _ _ y => y.same sx))
        have exN : ∀ (Hx : Hp) (p : Addr), Same H17 Hx → Hx p = none → ¬ (p = a ∨ p = D) := fun Hx p sx nx z => z.elim (F7.e.feed.ne (sx.free nx)) fun e => by
          have := sx _ _ F7.at_
          rw [← e, nx] at this; cases this
        -- found.append([demands, readers[:spot] + [(limit + 1, may)] + readers[spot + 1:]])
        refine ⟨_, rfl, .inl ⟨rfl, _, .inl (.inl F7.at_)⟩, _, rfl, ?_⟩
        refine ⟨_, rfl, _, rfl, _, rfl, R, us, rfl, .inl (.inl hR17), fun q1 g1 => ?_⟩
        rw [cut_to]
        have t1 : Same H17 (upd H17 q1 (.lst (us.take i))) := sameU g1
        have z1 : upd H17 q1 (.lst (us.take i)) q1 = some (.lst (us.take i)) := upd_same
        generalize upd H17 q1 (.lst (us.take i)) = G1 at *
        refine ⟨_, rfl, _, _, rfl, rfl, .inl ⟨_, rfl, _, _, rfl, rfl, (by show (0 : Int) < 7; decide), _, rfl, two, fun q2 g2 => ⟨(by show 1 ≤ sizeLine; decide), fun q3 g3 => ?_⟩⟩⟩
        have t2 : Same G1 (upd G1 q2 (.tup [.int ((lim + 1) % 7), .ref m])) := sameU g2
        have z2 : upd G1 q2 (.tup [V.int ((lim + 1) % 7), .ref m]) q2 = some (.tup [.int ((lim + 1) % 7), .ref m]) := upd_same
        generalize upd G1 q2 (.tup [.int ((lim + 1) % 7), .ref m]) = G2 at *
        have t3' : Same G2 (upd G2 q3 (.lst [.ref q2])) := sameU g3
        have u3 := t1.trans (t2.trans t3')
        refine ⟨q1, q3, _, _, rfl, rfl, (t2.trans t3') _ _ z1, upd_same, szL (by simp; omega), fun q4 g4 => ?_⟩
        have t4 : Same (upd G2 q3 (.lst [.ref q2])) (upd (upd G2 q3 (.lst [.ref q2])) q4 (.lst (us.take i ++ [.ref q2]))) := sameU g4
        have z4 : upd (upd G2 q3 (.lst [.ref q2])) q4 (.lst (us.take i ++ [V.ref q2])) q4 = some (.lst (us.take i ++ [.ref q2])) := upd_same
        have z2' := (t3'.trans t4) _ _ z2
        have u4 := u3.trans t4
        generalize upd (upd G2 q3 (.lst [.ref q2])) q4 (.lst (us.take i ++ [.ref q2])) = G4 at *
        refine ⟨_, rfl, _, rfl, _, _, rfl, rfl, _, rfl, R, us, rfl, .inl (.inl (u4 _ _ hR17)), fun q5 g5 => ?_⟩
        rw [show cutV us (some ((i : Int) + 1)) none = us.drop (i + 1) by rw [ei]; exact cut_from _ _]
        have t5' : Same G4 (upd G4 q5 (.lst (us.drop (i + 1)))) := sameU g5
        have z5 : upd G4 q5 (.lst (us.drop (i + 1))) q5 = some (.lst (us.drop (i + 1))) := upd_same
        generalize upd G4 q5 (.lst (us.drop (i + 1))) = G5 at *
        refine ⟨q4, q5, _, _, rfl, rfl, t5' _ _ z4, z5, szL (by simp; omega), fun q6 g6 => ?_⟩
        have t6 : Same G5 (upd G5 q6 (.lst (us.take i ++ [.ref q2] ++ us.drop (i + 1)))) := sameU g6
        have z6 : upd G5 q6 (.lst (us.take i ++ [V.ref q2] ++ us.drop (i + 1))) q6 = some (.lst (us.take i ++ [.ref q2] ++ us.drop (i + 1))) := upd_same
        have x6 := exN _ q6 (u4.trans t5') g6
        have u6 := u4.trans (t5'.trans t6)
        have z2'' := (t5'.trans t6) _ _ z2'
        generalize upd G5 q6 (.lst (us.take i ++ [.ref q2] ++ us.drop (i + 1))) = G6 at *
        refine ⟨two, fun l8 g7 => ?_⟩
        have t7' : Same G6 (upd G6 l8 (.lst [.ref A, .ref q6])) := sameU g7
        have u7 := u6.trans t7'
        have F8 := (F7.ext (.same F7.e.feed u7)).push (v := .ref l8) ⟨l8, A, q6, ds, _, _, rfl, exN _ _ u6 g7, nAD7, x6, upd_same, u7 _ _ hA17, t7' _ _ z6, prs _ _ ((lim + 1) % 7, may) u7 ⟨q2, m, rfl, .inl (.inl (t7' _ _ z2'')), sameT u7 hM⟩,
          repl _ ⟨Int.emod_nonneg _ (by decide), by have := Int.emod_lt_of_pos (lim + 1) (show (0 : Int) < 7 by decide); show (lim + 1) % 7 ≤ 6; omega, hok.2.2⟩⟩
        refine ⟨D, _, _, rfl, rfl, u7 _ _ F7.at_, szl (by have := F7.len; omega), ?_⟩
        have hM18 : SqT K (upd (upd G6 l8 (.lst [.ref A, .ref q6])) D (.lst (xs ++ [.ref l8]))) m (may.map V.int) := sqT_upd (u7 _ _ F7.at_) (sameT u7 hM)
        have hP18 : Paired (RdT K (upd (upd G6 l8 (.lst [.ref A, .ref q6])) D (.lst (xs ++ [.ref l8])))) us rs := L2.Paired.mapP hP fun _ _ y => y.ext F8.e hF
        generalize upd (upd G6 l8 (.lst [.ref A, .ref q6])) D (.lst (xs ++ [.ref l8])) = H18 at *
        generalize xs ++ [V.ref l8] = xs8 at *
        clear prs exN u7 t7' u6 x6 z6 t6 z5 t5' u4 z4 t4 u3 t3' t2 t1 z1 z2 z2' z2''
        have hA18 : H18 A = some (.lst (ds.map V.int)) := F8.e.1 _ _ fA hA
        have hR18 : H18 R = some (.lst us) := F8.e.1 _ _ fR hR
        have prs : ∀ (Hx : Hp) (v : V) (r' : Int × List Int), Same H18 Hx → RdT K Hx v r' → Paired (RdT K Hx) (us.take i ++ [v] ++ us.drop (i + 1)) (rs.take i ++ [r'] ++ rs.drop (i + 1)) := fun Hx v r' sx hv =>
          Paired.app (Paired.app (Paired.take i (L2.Paired.mapP hP18 fun _ _ y => y.same sx)) (.cons hv .nil)) (Paired.drop (i + 1) (L2.Paired.mapP hP18 fun _ _ y => y.same sx))
        have exN : ∀ (Hx : Hp) (p : Addr), Same H18 Hx → Hx p = none → ¬ (p = a ∨ p = D) := fun Hx p sx nx z => z.elim (F8.e.feed.ne (sx.free nx)) fun e => by
          have := sx _ _ F8.at_
          rw [← e, nx] at this; cases this
        -- found.append([demands, readers[:spot] + [(limit, may[1:])] + readers[spot + 1:]])
        refine ⟨_, rfl, .inl ⟨rfl, _, .inl (.inl F8.at_)⟩, _, rfl, ?_⟩
        refine ⟨_, rfl, _, rfl, _, rfl, R, us, rfl, .inl (.inl hR18), fun q1 g1 => ?_⟩
        rw [cut_to]
        have t1 : Same H18 (upd H18 q1 (.lst (us.take i))) := sameU g1
        have z1 : upd H18 q1 (.lst (us.take i)) q1 = some (.lst (us.take i)) := upd_same
        generalize upd H18 q1 (.lst (us.take i)) = G1 at *
        refine ⟨_, rfl, _, rfl, 1, rfl, m, _, rfl, sameT t1 hM18, fun m2 Gm tm hM2 => ⟨two, fun q2 g2 => ⟨(by show 1 ≤ sizeLine; decide), fun q3 g3 => ?_⟩⟩⟩
        rw [show cutV (may.map V.int) (some 1) none = (may.drop 1).map V.int by rw [List.map_drop]; exact cut_from _ 1] at hM2
        have t2 : Same Gm (upd Gm q2 (.tup [.int lim, .ref m2])) := sameU g2
        have z2 : upd Gm q2 (.tup [V.int lim, .ref m2]) q2 = some (.tup [.int lim, .ref m2]) := upd_same
        have hM3 := sameT t2 hM2
        generalize upd Gm q2 (.tup [.int lim, .ref m2]) = G2 at *
        have t3' : Same G2 (upd G2 q3 (.lst [.ref q2])) := sameU g3
        have u3 := t1.trans (tm.trans (t2.trans t3'))
        refine ⟨q1, q3, _, _, rfl, rfl, (tm.trans (t2.trans t3')) _ _ z1, upd_same, szL (by simp; omega), fun q4 g4 => ?_⟩
        have t4 : Same (upd G2 q3 (.lst [.ref q2])) (upd (upd G2 q3 (.lst [.ref q2])) q4 (.lst (us.take i ++ [.ref q2]))) := sameU g4
        have z4 : upd (upd G2 q3 (.lst [.ref q2])) q4 (.lst (us.take i ++ [V.ref q2])) q4 = some (.lst (us.take i ++ [.ref q2])) := upd_same
        have z2' := (t3'.trans t4) _ _ z2
        have hM4 := sameT (t3'.trans t4) hM3
        have u4 := u3.trans t4
        generalize upd (upd G2 q3 (.lst [.ref q2])) q4 (.lst (us.take i ++ [.ref q2])) = G4 at *
        refine ⟨_, rfl, _, rfl, _, _, rfl, rfl, _, rfl, R, us, rfl, .inl (.inl (u4 _ _ hR18)), fun q5 g5 => ?_⟩
        rw [show cutV us (some ((i : Int) + 1)) none = us.drop (i + 1) by rw [ei]; exact cut_from _ _]
        have t5' : Same G4 (upd G4 q5 (.lst (us.drop (i + 1)))) := sameU g5
        have z5 : upd G4 q5 (.lst (us.drop (i + 1))) q5 = some (.lst (us.drop (i + 1))) := upd_same
        generalize upd G4 q5 (.lst (us.drop (i + 1))) = G5 at *
        refine ⟨q4, q5, _, _, rfl, rfl, t5' _ _ z4, z5, szL (by simp; omega), fun q6 g6 => ?_⟩
        have t6 : Same G5 (upd G5 q6 (.lst (us.take i ++ [.ref q2] ++ us.drop (i + 1)))) := sameU g6
        have z6 : upd G5 q6 (.lst (us.take i ++ [V.ref q2] ++ us.drop (i + 1))) q6 = some (.lst (us.take i ++ [.ref q2] ++ us.drop (i + 1))) := upd_same
        have x6 := exN _ q6 (u4.trans t5') g6
        have u6 := u4.trans (t5'.trans t6)
        have z2'' := (t5'.trans t6) _ _ z2'
        have hM6 := sameT (t5'.trans t6) hM4
        generalize upd G5 q6 (.lst (us.take i ++ [.ref q2] ++ us.drop (i + 1))) = G6 at *
        refine ⟨two, fun l9 g7 => ?_⟩
        have t7' : Same G6 (upd G6 l9 (.lst [.ref A, .ref q6])) := sameU g7
        have u7 := u6.trans t7'
        have F9 := (F8.ext (.same F8.e.feed u7)).push (v := .ref l9) ⟨l9, A, q6, ds, _, _, rfl, exN _ _ u6 g7, nAD7, x6, upd_same, u7 _ _ hA18, t7' _ _ z6, prs _ _ (lim, may.drop 1) u7 ⟨q2, m2, rfl, .inl (.inl (t7' _ _ z2'')), sameT t7' hM6⟩,
          repl _ ⟨hok.1, hok.2.1, hok.2.2.1.sublist (List.drop_sublist 1 may), fun x hx => hok.2.2.2 x (List.mem_of_mem_drop hx)⟩⟩
        exact ⟨D, _, _, rfl, rfl, u7 _ _ F8.at_, szl (by have := F8.len; omega), D, _, rfl, F9⟩
    · rintro σ H19 ⟨D, xs, hσ, F9⟩
      exact ⟨_, hσ, q H19 D xs F9.e F9.at_ (Nat.le_trans F9.len (by decide)) fun v hv => (F9.all v hv).mono fun b e => .inl e⟩
end
end Ew
namespace Ew
open PySem PySem.Spec PyProof.Rows L2
abbrev sLaw : Stmt := (top 23)
abbrev sBkLen : Stmt := (inClass (top 13) 3)
def spBkLen (K : PySem.W.Frag) (C : Addr) : Sp := fun vs H Q _ => ∃ (f x : Addr) (ds : List Int) (us : List V) (rs : List (Int × List Int)), vs = [.ref x] ∧ IsBook K C f H x ds us rs ∧ Q (.int ds.length) H
structure LenTxt (K : PySem.W.Frag) (C : Addr) : Prop where
  len : ∃ f fd, Fun K "__len__" "Book.__len__" sBkLen f fd ∧ Binds K fd ["self"] [] ∧ Meth K C "__len__" f
  ne : PySem.W.findIn K (.ref C) "__ne__" = some (some (.builtin "object.__ne__"))
  ov : OverObject K C
theorem sameX {H H1 H2 : Hp} {f : Addr} (s : Same H H1) (n : H f = none) (e : Ext1 f H1 H2) : Same H H2 := fun b o h => e.1 b o (ne_of_none h n) (s b o h)
def dBk (ds : List Int) (rs : List (Int × List Int)) (n : Int) : PyData := .list [dI ds, dRs rs, .int n]
def dLs (ds : List Int) (rs : List (Int × List Int)) : PyData := .list [.list (ds.map .int ++ [.none]), .list (rs.map dR ++ [.none])]
theorem layAll_app : ∀ xs ys : List PyData, PyData.canLayAll0 (xs ++ ys) = (PyData.canLayAll0 xs && PyData.canLayAll0 ys)
  | [], ys => by simp [PyData.canLayAll0]
  | x :: xs, ys => by
    show (PyData.canLay0 x && PyData.canLayAll0 (xs ++ ys)) = ((PyData.canLay0 x && PyData.canLayAll0 xs) && PyData.canLayAll0 ys)
    rw [layAll_app xs ys, Bool.and_assoc]
theorem depAll_app {n : Nat} : ∀ xs ys : List PyData, PyData.depthAll xs ≤ n → PyData.depthAll ys ≤ n → PyData.depthAll (xs ++ ys) ≤ n
  | [], ys, _, h => h
  | x :: xs, ys, h1, h2 => by
    have h1' : max (PyData.depth x) (PyData.depthAll xs) ≤ n := h1
    show max (PyData.depth x) (PyData.depthAll (xs ++ ys)) ≤ n
    have := depAll_app xs ys (n := n) (by omega) h2
    omega
theorem lay_dBk (ds rs n) : PyData.canLay0 (dBk ds rs n) = true := by
  show (PyData.canLay0 (dI ds) && (PyData.canLay0 (dRs rs) && (true && true))) = true
  rw [show PyData.canLay0 (dI ds) = true from layAll_map PyData.int (fun _ => rfl) ds, show PyData.canLay0 (dRs rs) = true from layAll_map dR lay_dR rs]
  rfl
theorem shp_dBk (ds rs n) : SeqAt.shaped (dBk ds rs n) = true := by
  refine shp (n := 4) (lay_dBk ds rs n) ?_ (by decide)
  have h1 := depAll_map PyData.int (n := 0) (fun _ => Nat.le_refl _) ds
  have h2 := depAll_map dR dep_dR rs
  show max (PyData.depthAll (ds.map .int) + 1) (max (PyData.depthAll (rs.map dR) + 1) (max 0 0)) + 1 ≤ 4
  omega
theorem lay_dLs (ds rs) : PyData.canLay0 (dLs ds rs) = true := by
  show (PyData.canLayAll0 (ds.map .int ++ [.none]) && (PyData.canLayAll0 (rs.map dR ++ [.none]) && true)) = true
  rw [layAll_app, layAll_app, layAll_map PyData.int (fun _ => rfl) ds, layAll_map dR lay_dR rs]
  rfl
theorem shp_dLs (ds rs) : SeqAt.shaped (dLs ds rs) = true := by
  refine shp (n := 4) (lay_dLs ds rs) ?_ (by decide)
  have h1 := depAll_app (n := 2) (ds.map .int) [.none] (Nat.le_trans (depAll_map PyData.int (n := 0) (fun _ => Nat.le_refl _) ds) (by decide)) (by decide)
  have h2 := depAll_app (n := 2) (rs.map dR) [.none] (depAll_map dR dep_dR rs) (by decide)
  show max (PyData.depthAll (ds.map .int ++ [.none]) + 1) (max (PyData.depthAll (rs.map dR ++ [.none]) + 1) 0) + 1 ≤ 4
  omega
theorem dpAll_app {K : PySem.W.Frag} {H : Hp} : ∀ {vs : List V} {ds : List PyData} {ws : List V} {es : List PyData}, DpAll K H vs ds → DpAll K H ws es → DpAll K H (vs ++ ws) (ds ++ es)
  | _, _, _, _, .nil, h => h
  | _, _, _, _, .cons h t, g => .cons h (dpAll_app t g)
def spLaw (K : PySem.W.Frag) : Sp := fun vs H Q _ => ∃ (a : Addr) (ns : List Int), vs = [.ref a] ∧ SqL K H a (ns.map V.int) ∧ ns.length ≤ 63 ∧ ∀ H', Q (.bl true) H'
section
variable {P : Program} {w : World} {K : PySem.W.Frag} {mg : Str → Option Value} {base : Heap} {C : Addr}
theorem scBkLen : FnScope ["self"] ["self"] (defScope sBkLen) := ⟨rfl, rfl, rfl, by decide +kernel, rfl, by decide +kernel, by decide +kernel⟩
theorem ok_bkLen {f : Addr} {fd : FuncData} (F : Fun K "__len__" "Book.__len__" sBkLen f fd) (B : Bi mg) (T : BookTxt K mg C) : FnOk P w K mg base CX0 1 f fd ["self"] (spBkLen K C) := by
  refine F.ok scBkLen (fun vs H Q E h => ?_) (fun cdv A outer s H vs Q E hr h => ?_)
  · obtain ⟨f, x, ds, us, rs, rfl, _⟩ := h
    rfl
  · obtain ⟨f, x, ds, us, rs, rfl, ⟨dx, A, R, h1, h2, h3, h4, h5, h6⟩, q⟩ := h
    refine ⟨_, pss_one (ps_ret (pe_callB call_len_seq (by rfl) B.len PySem.boot_len (pa_cons (pe_fld (pv 0) rfl) pa_nil))), ?_⟩
    refine ⟨_, rfl, x, C, dx, _, _, rfl, h1, T.cl, T.nD, bf_dem _ _, A, _, rfl, .inl (.inl (.inl h2)), ?_⟩
    rw [List.length_map]
    exact q
/-- a new book, made of such lists -/
theorem init_of {Hb : Hp} {f x dx A1 R1 : Addr} {ds : List Int} {us : List V} {rs : List (Int × List Int)} {Q : VK} {E : XK} (hf : FeedAt Hb f) (nx : Hb x = none) (ndx : Hb dx = none) (nex : dx ≠ x) (hA : SqL K Hb A1 (ds.map V.int)) (hR : SqL K Hb R1 us)
    (hP : Paired (RdT K Hb) us rs) (ok : DsOk ds rs) (k : ∀ H4, Same Hb H4 → IsBook K C f H4 x ds us rs → Q .non H4) : spBkInit K C [.ref x, .ref A1, .ref R1] (upd (upd Hb dx (.own x)) x (.ins C dx [])) Q E := by
  have s0 : Same Hb (upd (upd Hb dx (.own x)) x (.ins C dx [])) := fun b o e => by
    rw [upd_ne (ne_of_none e nx), upd_ne (ne_of_none e ndx)]
    exact e
  refine ⟨x, dx, A1, R1, ds, us, rs, rfl, upd_same, s0.seq hA, s0.seq hR, L2.Paired.mapP hP fun _ _ z => z.same s0, ok, fun H4 A2 R2 keep nA nR hx hA2 hR2 => ?_⟩
  have s4 : Same Hb H4 := fun b o e => keep b o (ne_of_none e nx) (s0 b o e)
  have hf0 : FeedAt (upd (upd Hb dx (.own x)) x (.ins C dx [])) f := let ⟨d, t, e⟩ := hf; ⟨d, t, s0 _ _ e⟩
  exact k H4 s4 ⟨dx, A2, R2, hx, hA2, hR2, hf0.ne nA, hf0.ne nR, L2.Paired.mapP hP fun _ _ z => z.same s4⟩
theorem sym2 {α β : Type} [DecidableEq α] [DecidableEq β] (a b : α) (c d : β) : (decide (a = b) && decide (c = d)) = (decide (b = a) && decide (d = c)) := by
  have e1 : decide (a = b) = decide (b = a) := decide_eq_decide.mpr ⟨Eq.symm, Eq.symm⟩
  have e2 : decide (c = d) = decide (d = c) := decide_eq_decide.mpr ⟨Eq.symm, Eq.symm⟩
  rw [e1, e2]
theorem scLaw : FnScope ["script", "k", "feed", "demands", "readers", "book", "lists", "wanted", "some", "other", "is_same", "odd"] ["script"] (defScope sLaw) := ⟨rfl, rfl, rfl, by decide +kernel, rfl, by decide +kernel, by decide +kernel⟩
theorem ok_law {f : Addr} {fd : FuncData} (F : Fun K "law" "law" sLaw f fd) (L : Low K mg) (V1 : Vals1 K mg) (T : BookTxt K mg C) (LT : LenTxt K C) (N : NoBook K C) (hO : ∃ f fd, Fun K "_law_others" "_law_others" sOth f fd ∧ Binds K fd ["feed", "demands", "readers"] [] ∧ mg "_law_others" = some (.ref f)) :
    FnOk P w K mg base CX0 6 f fd ["script"] (spLaw K) := by
  have L' := L
  have B := L.bi
  obtain ⟨_, ⟨fF, fdF, FF, bF, gF⟩, _, _, _, _, _, ⟨fB, fdB, FB, bB, gB⟩⟩ := L'
  obtain ⟨fI, fdI, FI, bI, mk⟩ := T.init
  obtain ⟨fD, fdD, FD, bD, mD⟩ := T.dem
  obtain ⟨fR, fdR, FR, bR, mR⟩ := T.rd
  obtain ⟨fE, fdE, FE, bE, mE⟩ := T.eq
  obtain ⟨fL, fdL, FL, bL, mL⟩ := LT.len
  obtain ⟨fO, fdO, FO, bO, gO⟩ := hO
  have GF : FnOk P w K mg base CX0 1 fF fdF ["script", "k"] (spFeed K) := ok_feed FF B
  have GB : FnOk P w K mg base CX0 4 fB fdB ["feed", "most_works", "most_readers"] (spBook K) := ok_book FB L
  have GI : FnOk P w K mg base CX0 4 fI fdI ["self", "demands", "readers"] (spBkInit K C) := ok_bkInit FI V1 T
  have GD : FnOk P w K mg base CX0 1 fD fdD ["self"] (spBkDem K C) := ok_bkDem FD B T
  have GR : FnOk P w K mg base CX0 1 fR fdR ["self"] (spBkRd K C) := ok_bkRd FR B T
  have GE : FnOk P w K mg base CX0 1 fE fdE ["self", "other"] (spBkEq K C) := ok_bkEq FE B T N
  have GL : FnOk P w K mg base CX0 1 fL fdL ["self"] (spBkLen K C) := ok_bkLen FL B T
  have GO : FnOk P w K mg base CX0 2 fO fdO ["feed", "demands", "readers"] (spOth K) := ok_oth FO L
  refine F.ok scLaw (fun vs H Q E h => ?_) (fun cdv A outer s H vs Q E hr h => ?_)
  · obtain ⟨a, ns, rfl, _⟩ := h
    rfl
  · obtain ⟨a, ns, rfl, hS, hlen, q⟩ := h
    have hr1 : Room 1 _ := hr.mono (by decide)
    have hr2 : Room 2 _ := hr.mono (by decide)
    have hr4 : Room 4 _ := hr.mono (by decide)
    refine ⟨_, pss_cons (ps_for PassesOwn.never rfl (pi_range1 rfl B.range (pa_cons (pe_callB (call_max2 rfl) (by rfl) B.max (by decide +kernel) (pa_cons pe_int (pa_cons (pe_callB (call_min2 rfl) (by rfl) B.min (by decide +kernel) (pa_cons pe_int (pa_cons (pe_callB call_len_seq (by rfl) B.len PySem.boot_len (pa_cons (pv 0) pa_nil)) pa_nil))) pa_nil))) pa_nil))
        (pg_name (i := 1) scLaw.nd rfl (.inl rfl))
        (pss_cons (ps_set (i := 2) scLaw.nd rfl (.inl rfl) (pe_call GF hr1 (by rfl) gF FF.kp bF .nil pass0 (pa_cons (pv 0) (pa_cons (pv 1) pa_nil))))
        (pss_cons (ps_asg (pe_call GB hr4 (by rfl) gB FB.kp bB .nil pass0 (pa_cons (pv 2) (pa_cons pe_int (pa_cons pe_int pa_nil)))) (pg_unl (by rfl) (pgs_cons (pg_name (i := 3) scLaw.nd rfl (.inl rfl)) (pgs_cons (pg_name (i := 4) scLaw.nd rfl (.inl rfl)) pgs_nil))))
        (pss_cons (ps_set (i := 5) scLaw.nd rfl (.inl rfl) (pe_make mk GI hr (by rfl) T.mgC bI .nil pass0 (pa_cons (pe_callTy call_list_of (by rfl) B.list (by decide +kernel) (pa_cons (pv 3) pa_nil)) (pa_cons (pe_callTy call_list_of (by rfl) B.list (by decide +kernel) (pa_cons (pv 4) pa_nil)) pa_nil))))
        (pss_cons (ps_set (i := 6) scLaw.nd rfl (.inl rfl) (pe_lst (pa_cons (pe_meth0 (pv 5) T.cl mD GD hr1 bD .nil pass0) (pa_cons (pe_meth0 (pv 5) T.cl mR GR hr1 bR .nil pass0) pa_nil))))
        (pss_cons (ps_expr (pe_bm PySem.F.plainAttrs_list PySem.F.slot_list_append PySem.F.type_list_append mt_append (pe_ix ix_list (pv 6) pe_int (fun _ _ => rfl)) (pa_cons pe_non pa_nil)))
        (pss_cons (ps_expr (pe_bm PySem.F.plainAttrs_list PySem.F.slot_list_append PySem.F.type_list_append mt_append (pe_ix ix_list (pv 6) pe_int (fun _ _ => rfl)) (pa_cons pe_non pa_nil)))
        (pss_cons (ps_if (pt_cmpR (op_neD hr.units) (pe_lst (pa_cons (pe_meth0 (pv 5) T.cl mD GD hr1 bD .nil pass0) (pa_cons (pe_meth0 (pv 5) T.cl mR GR hr1 bR .nil pass0) (pa_cons (pe_callB (call_lenOwn GL hr2 mL.at_ mL.fn bL) (by rfl) B.len PySem.boot_len (pa_cons (pv 5) pa_nil)) pa_nil))))
            (pe_lst (pa_cons (pv 3) (pa_cons (pv 4) (pa_cons (pe_callB call_len_seq (by rfl) B.len PySem.boot_len (pa_cons (pv 3) pa_nil)) pa_nil)))) (nomark _)) (pss_one (ps_ret pe_bl)) pss_nil)
        (pss_cons (ps_if (pt_cmpR (op_neD hr.units) (pv 6) (pe_lst (pa_cons (pe_op op_cat (pv 3) (pe_lst (pa_cons pe_non pa_nil))) (pa_cons (pe_op op_cat (pv 4) (pe_lst (pa_cons pe_non pa_nil))) pa_nil))) (nomark _)) (pss_one (ps_ret pe_bl)) pss_nil)
        (pss_cons (ps_for PassesOwn.never rfl (pi_list (pe_call GO hr2 (by rfl) gO FO.kp bO .nil pass0 (pa_cons (pv 2) (pa_cons (pv 3) (pa_cons (pv 4) pa_nil)))))
            (pg_unl (by rfl) (pgs_cons (pg_name (i := 7) scLaw.nd rfl (.inl rfl)) (pgs_cons (pg_name (i := 8) scLaw.nd rfl (.inl rfl)) pgs_nil)))
            (pss_cons (ps_par (i := 9) (j := 10) (by rfl) scLaw.nd rfl rfl (by decide) rfl rfl (pa_cons (pe_make mk GI hr (by rfl) T.mgC bI .nil pass0 (pa_cons (pv 7) (pa_cons (pv 8) pa_nil))) (pa_cons (pe_cmpR (op_eqD hr.units) (pv 7) (pv 3) (nomark _)) pa_nil)) (by rfl))
            (C8.pss_cut (ps_set (i := 10) scLaw.nd rfl (.inl rfl) (pe_and (pv 10) (pe_one (pe_cmpR (op_eqD hr.units) (pv 8) (pv 4) (nomark _)))))
            (pss_one (ps_if (PW.pt (pw_or (pt_cmpR op_ne (pe_cmpR (op_eqOwn GE hr1 mE.at_ mE.fn bE) (pv 5) (pv 9) (nomark _)) (pv 10) (nomark _))
                (pw_or (pt_cmpR op_eq (pe_cmpR (op_neOwn GE hr2 mE.at_ mE.fn bE LT.ov LT.ne) (pv 5) (pv 9) (nomark _)) (pv 10) (nomark _))
                (pw_or1 (pt_cmpR op_ne (pe_cmpR (op_eqOwn GE hr1 mE.at_ mE.fn bE) (pv 9) (pv 5) (nomark _)) (pv 10) (nomark _)))))) (pss_one (ps_ret pe_bl)) pss_nil)))))
        (pss_one (ps_for PassesOwn.never rfl (pi_tup (pe_tup (pa_cons pe_non (pa_cons (pv 3) (pa_cons (pv 4) (pa_cons (pe_tup (pa_cons (pv 3) (pa_cons (pv 4) pa_nil))) (pa_cons pe_str (pa_cons pe_int (pa_cons pe_dnewK pa_nil)))))))))
            (pg_name (i := 11) scLaw.nd rfl (.inl rfl))
            (pss_one (ps_if (PW.pt (pw_or (pt_cmpR (op_eqOwn GE hr1 mE.at_ mE.fn bE) (pv 5) (pv 11) (nomark _)) (pw_or1 (pt_not (pt_cmpR (op_neOwn GE hr2 mE.at_ mE.fn bE LT.ov LT.ne) (pv 5) (pv 11) (nomark _)))))) (pss_one (ps_ret pe_bl)) pss_nil))))))))))))))
      (pss_one (ps_ret pe_bl)), ?_⟩
    have two : 2 ≤ sizeLine := by decide
    refine ⟨_, rfl, a, _, rfl, .inl hS, _, _, rfl, _, _, rfl, _, rfl, (by split <;> (try split) <;> omega), (by split <;> (try split) <;> omega), ?_⟩
    refine for_range (lo := 0) (fun i σ H' => ∃ y1 y2 y3 y4 y5 y6 y7 y8 y9 y10 y11 : Option V, σ = [some (.ref a), y1, y2, y3, y4, y5, y6, y7, y8, y9, y10, y11] ∧ Same H H') ⟨none, none, none, none, none, none, none, none, none, none, none, rfl, Same.refl H⟩ ?_ ?_
    · rintro i σ H1 hi ⟨y1, y2, y3, y4, y5, y6, y7, y8, y9, y10, y11, rfl, s1⟩
      have hi3 : i < 3 := by
        refine Nat.lt_of_lt_of_le hi ?_
        split <;> (try split) <;> omega
      refine ⟨_, rfl, _, rfl, a, ns, 0 + (i : Int), rfl, s1.seq hS, hlen, by omega, by omega, fun H2 f s2 nf hf => ?_⟩
      have nf0 : H f = none := s1.free nf
      refine ⟨_, rfl, f, 6, 6, rfl, hf, by decide, by decide, by decide, by decide, fun H3 p A R ds us rs e3 np nA nR hp bk npA npR _ _ => ?_⟩
      have ok := bk.dsOk
      have fA : A ≠ f := hf.ne nA
      have fR : R ≠ f := hf.ne nR
      have s3 : Same H H3 := sameX (s1.trans s2) nf0 e3
      have hf3 := e3.feed
      refine ⟨p, _, rfl, .inl (.inl hp), rfl, _, _, rfl, _, _, rfl, rfl, ?_⟩
      -- book
      refine ⟨_, rfl, A, _, rfl, .inl (.inl (.inl bk.dem)), fun A1 nA1 => ?_⟩
      have t1 : Same H3 (upd H3 A1 (.lst (ds.map V.int))) := sameU nA1
      refine ⟨_, rfl, R, _, rfl, .inl (.inl (.inl (t1 _ _ bk.rd))), fun R1 nR1 => ?_⟩
      have t2 : Same (upd H3 A1 (.lst (ds.map V.int))) (upd (upd H3 A1 (.lst (ds.map V.int))) R1 (.lst us)) := sameU nR1
      have z1 : upd (upd H3 A1 (.lst (ds.map V.int))) R1 (.lst us) A1 = some (.lst (ds.map V.int)) := t2 _ _ upd_same
      have z2 : upd (upd H3 A1 (.lst (ds.map V.int))) R1 (.lst us) R1 = some (.lst us) := upd_same
      have u2 := t1.trans t2
      generalize upd (upd H3 A1 (.lst (ds.map V.int))) R1 (.lst us) = H4 at *
      have hf4 : FeedAt H4 f := let ⟨d, t, e⟩ := hf3; ⟨d, t, u2 _ _ e⟩
      intro x dx nx ndx nex
      refine init_of (K := K) (rs := rs) hf4 nx ndx nex (.inl (.inl z1)) (.inl (.inl z2)) (L2.Paired.mapP bk.rds fun _ _ z => z.same u2) ok fun H5 s5 b5 => ⟨rfl, ?_⟩
      have s35 : Same H3 H5 := u2.trans s5
      clear s5 z1 z2 u2 t1 t2 hf4 nx ndx nex
      have hf5 : FeedAt H5 f := let ⟨d, t, e⟩ := hf3; ⟨d, t, s35 _ _ e⟩
      have hA5 := s35 _ _ bk.dem
      have hR5 := s35 _ _ bk.rd
      have hP5 : Paired (RdT K H5) us rs := L2.Paired.mapP bk.rds fun _ _ z => z.same s35
      obtain ⟨dxb, Ab, Rb, hx5, _⟩ := id b5
      have noD : (bf Ab Rb).lookup ("demands" : Str) = none := bf_no _ _ (by decide +kernel) (by decide +kernel)
      have noR : (bf Ab Rb).lookup ("readers" : Str) = none := bf_no _ _ (by decide +kernel) (by decide +kernel)
      -- lists
      refine ⟨_, rfl, x, dxb, _, rfl, hx5, noD, f, x, ds, us, rs, rfl, b5, fun H6 p6 s6 n6 h6 => ?_⟩
      refine ⟨_, rfl, x, dxb, _, rfl, s6 _ _ hx5, noR, f, x, ds, us, rs, rfl, b5.same s6, fun H7 p7 s7 n7 h7 => ⟨two, fun l7 n8 => ?_⟩⟩
      have n76 : p7 ≠ p6 := (ne_of_none h6 n7).symm
      have h67 := s7 _ _ h6
      have nl6 : l7 ≠ p6 := (ne_of_none h67 n8).symm
      have nl7 : l7 ≠ p7 := (ne_of_none h7 n8).symm
      have t8 : Same H7 (upd H7 l7 (.lst [.ref p6, .ref p7])) := sameU n8
      have k6 := t8 _ _ h67
      have k7 := t8 _ _ h7
      have kl : upd H7 l7 (.lst [V.ref p6, .ref p7]) l7 = some (.lst [.ref p6, .ref p7]) := upd_same
      have u8 : Same H5 (upd H7 l7 (.lst [.ref p6, .ref p7])) := s6.trans (s7.trans t8)
      generalize upd H7 l7 (.lst [.ref p6, .ref p7]) = H8 at *
      refine ⟨_, rfl, l7, _, 0, _, rfl, rfl, .inl (.inl kl), rfl, .inl ⟨rfl, _, .inl (.inl k6)⟩, p6, _, _, rfl, rfl, k6, szl (by rw [List.length_map]; have := ok.n6; omega), ?_⟩
      have u9 : Same H5 (upd H8 p6 (.lst (ds.map V.int ++ [.non]))) := same_own u8 n6
      have k7' : upd H8 p6 (.lst (ds.map V.int ++ [.non])) p7 = some (.lst us) := by rw [upd_ne n76]; exact k7
      have kl' : upd H8 p6 (.lst (ds.map V.int ++ [.non])) l7 = some (.lst [.ref p6, .ref p7]) := by rw [upd_ne nl6]; exact kl
      have k6' : upd H8 p6 (.lst (ds.map V.int ++ [V.non])) p6 = some (.lst (ds.map V.int ++ [.non])) := upd_same
      generalize upd H8 p6 (.lst (ds.map V.int ++ [.non])) = H9 at *
      have hul : us.length = rs.length := Paired.len hP5
      have r6 := ok.r6
      have n6' := ok.n6
      refine ⟨_, rfl, l7, _, 1, _, rfl, rfl, .inl (.inl kl'), rfl, .inl ⟨rfl, _, .inl (.inl k7')⟩, p7, _, _, rfl, rfl, k7', szl (by omega), ?_⟩
      have u10 : Same H5 (upd H9 p7 (.lst (us ++ [.non]))) := same_own u9 (s6.free n7)
      have k6'' : upd H9 p7 (.lst (us ++ [.non])) p6 = some (.lst (ds.map V.int ++ [.non])) := by rw [upd_ne n76.symm]; exact k6'
      have kl'' : upd H9 p7 (.lst (us ++ [.non])) l7 = some (.lst [.ref p6, .ref p7]) := by rw [upd_ne nl7]; exact kl'
      have k7'' : upd H9 p7 (.lst (us ++ [V.non])) p7 = some (.lst (us ++ [.non])) := upd_same
      generalize upd H9 p7 (.lst (us ++ [.non])) = H10 at *
      clear k6 k7 kl k6' k7' kl' u8 u9 h6 h7 h67
      have b10 := b5.same u10
      -- [book.demands(), ..] != [..]
      refine ⟨_, rfl, x, dxb, _, rfl, u10 _ _ hx5, noD, f, x, ds, us, rs, rfl, b10, fun H11 p11 s11 n11 h11 => ?_⟩
      refine ⟨_, rfl, x, dxb, _, rfl, (u10.trans s11) _ _ hx5, noR, f, x, ds, us, rs, rfl, b10.same s11, fun H12 p12 s12 n12 h12 => ?_⟩
      refine ⟨_, rfl, x, dxb, _, rfl, (u10.trans (s11.trans s12)) _ _ hx5, f, x, ds, us, rs, rfl, (b10.same s11).same s12, _, rfl, ⟨by omega, by omega⟩, (by show 3 ≤ sizeLine; decide), fun l13 n13 => ?_⟩
      have t13 : Same H12 (upd H12 l13 (.lst [.ref p11, .ref p12, .int ds.length])) := sameU n13
      have u13 := u10.trans (s11.trans (s12.trans t13))
      have k13 : upd H12 l13 (.lst [.ref p11, .ref p12, .int ds.length]) l13 = some (.lst [.ref p11, .ref p12, .int ds.length]) := upd_same
      have k11 := (s12.trans t13) _ _ h11
      have k12 := t13 _ _ h12
      have v13 : Same H10 (upd H12 l13 (.lst [.ref p11, .ref p12, .int ds.length])) := s11.trans (s12.trans t13)
      generalize upd H12 l13 (.lst [.ref p11, .ref p12, .int ds.length]) = H13 at *
      refine ⟨_, rfl, _, rfl, _, rfl, A, _, rfl, .inl (.inl (.inl (u13 _ _ hA5))), (by show 3 ≤ sizeLine; decide), fun l14 n14 => ?_⟩
      rw [List.length_map]
      have t14 : Same H13 (upd H13 l14 (.lst [.ref A, .ref R, .int ds.length])) := sameU n14
      have u14 := u13.trans t14
      have k14 : upd H13 l14 (.lst [.ref A, .ref R, .int ds.length]) l14 = some (.lst [.ref A, .ref R, .int ds.length]) := upd_same
      have v14 := v13.trans t14
      have dpR : ∀ (Hx : Hp) (q : Addr), Same H5 Hx → Hx q = some (.lst us) → Dp K Hx (.ref q) (dRs rs) := fun Hx q sx hq => dp_dRs (.inl (.inl hq)) (L2.Paired.mapP hP5 fun _ _ z => z.same sx)
      refine ⟨dBk ds rs ds.length, dBk ds rs ds.length, .lst (.inl (.inl (t14 _ _ k13))) (.cons (dp_dI (.inl (.inl (t14 _ _ k11)))) (.cons (dpR _ _ u14 (t14 _ _ k12)) (.cons (.int _) .nil))),
        .lst (.inl (.inl k14)) (.cons (dp_dI (.inl (.inl (u14 _ _ hA5)))) (.cons (dpR _ _ u14 (u14 _ _ hR5)) (.cons (.int _) .nil))), shp_dBk _ _ _, shp_dBk _ _ _, _, rfl, ?_⟩
      rw [SeqAt.eqv_refl _ (lay_dBk _ _ _)]
      refine iteF ?_
      generalize upd H13 l14 (.lst [.ref A, .ref R, .int ds.length]) = H14 at *
      clear k14 k13 k11 k12 t14 t13 v13 u13 h11 h12 s11 s12
      -- lists != [..]
      refine ⟨_, rfl, _, rfl, (by show 1 ≤ sizeLine; decide), fun q1 g1 => ?_⟩
      have t1 : Same H14 (upd H14 q1 (.lst [.non])) := sameU g1
      refine ⟨A, q1, _, _, rfl, rfl, (u14.trans t1) _ _ hA5, upd_same, szL (by simp; omega), fun q2 g2 => ?_⟩
      have t2 : Same (upd H14 q1 (.lst [.non])) (upd (upd H14 q1 (.lst [.non])) q2 (.lst (ds.map V.int ++ [.non]))) := sameU g2
      have z2 : upd (upd H14 q1 (.lst [.non])) q2 (.lst (ds.map V.int ++ [V.non])) q2 = some (.lst (ds.map V.int ++ [.non])) := upd_same
      have w2 := t1.trans t2
      generalize upd (upd H14 q1 (.lst [.non])) q2 (.lst (ds.map V.int ++ [.non])) = H15 at *
      refine ⟨_, rfl, (by show 1 ≤ sizeLine; decide), fun q3 g3 => ?_⟩
      have t3 : Same H15 (upd H15 q3 (.lst [.non])) := sameU g3
      refine ⟨R, q3, _, _, rfl, rfl, (u14.trans (w2.trans t3)) _ _ hR5, upd_same, szL (by simp; omega), fun q4 g4 => ?_⟩
      have t4 : Same (upd H15 q3 (.lst [.non])) (upd (upd H15 q3 (.lst [.non])) q4 (.lst (us ++ [.non]))) := sameU g4
      have z4 : upd (upd H15 q3 (.lst [.non])) q4 (.lst (us ++ [V.non])) q4 = some (.lst (us ++ [.non])) := upd_same
      have w4 := w2.trans (t3.trans t4)
      have z2' := (t3.trans t4) _ _ z2
      generalize upd (upd H15 q3 (.lst [.non])) q4 (.lst (us ++ [.non])) = H16 at *
      refine ⟨two, fun l17 g5 => ?_⟩
      have t5 : Same H16 (upd H16 l17 (.lst [.ref q2, .ref q4])) := sameU g5
      have w5 := w4.trans t5
      have u17 := u14.trans w5
      have v17 := v14.trans w5
      have hP17 : DpAll K (upd H16 l17 (.lst [.ref q2, .ref q4])) us (rs.map dR) := dpAll_map (g := dR) (fun _ _ z => dp_dR z) (L2.Paired.mapP hP5 fun _ _ z => z.same u17)
      have nonAll : ∀ Hx, DpAll K Hx [V.non] [PyData.none] := fun _ => .cons .non .nil
      refine ⟨dLs ds rs, dLs ds rs, .lst (.inl (.inl (v17 _ _ kl''))) (.cons (.lst (.inl (.inl (v17 _ _ k6''))) (dpAll_app (dpAll_ints ds) (nonAll _))) (.cons (.lst (.inl (.inl (v17 _ _ k7''))) (dpAll_app hP17 (nonAll _))) .nil)),
        .lst (.inl (.inl upd_same)) (.cons (.lst (.inl (.inl (t5 _ _ z2'))) (dpAll_app (dpAll_ints ds) (nonAll _))) (.cons (.lst (.inl (.inl (t5 _ _ z4))) (dpAll_app hP17 (nonAll _))) .nil)), shp_dLs _ _, shp_dLs _ _, _, rfl, ?_⟩
      rw [SeqAt.eqv_refl _ (lay_dLs _ _)]
      refine iteF ?_
      generalize upd H16 l17 (.lst [.ref q2, .ref q4]) = H17 at *
      clear hP17 v17 w5 t5 z2' z4 w4 z2 w2 t1 t2 t3 t4 v14 u14 kl'' k6'' k7'' b10 u10
      -- for wanted, some in _law_others(..)
      have hf17 : FeedAt H17 f := let ⟨d, t, e⟩ := hf5; ⟨d, t, u17 _ _ e⟩
      refine ⟨_, rfl, _, rfl, _, rfl, f, A, R, ds, us, rs, rfl, hf17, u17 _ _ hA5, u17 _ _ hR5, fA, fR, L2.Paired.mapP hP5 fun _ _ z => z.same u17, ok, fun Hq p xs eq hp hl hall => ?_⟩
      have bq : IsBook K C f Hq x ds us rs := (b5.same u17).ext hf17 eq
      have sq : Same H Hq := sameX ((s3.trans s35).trans u17) nf0 eq
      have hAq : Hq A = some (.lst (ds.map V.int)) := eq.1 _ _ fA (u17 _ _ hA5)
      have hRq : Hq R = some (.lst us) := eq.1 _ _ fR (u17 _ _ hR5)
      have hPq : Paired (RdT K Hq) us rs := L2.Paired.mapP hP5 fun _ _ z => (z.same u17).ext eq hf17
      have hfq := eq.feed
      obtain ⟨dxq, Aq, Rq, hxq, _⟩ := id bq
      refine ⟨p, rfl, ⟨_, .inl (.inl hp)⟩, ?_⟩
      refine for_list (K := K) (a := p) (xs := xs) (fun j σ H' => ∃ y7 y8 y9 y10 : Option V, σ = [some (.ref a), some (.int (0 + (i : Int))), some (.ref f), some (.ref A), some (.ref R), some (.ref x), some (.ref l7), y7, y8, y9, y10, y11] ∧ Same Hq H') ⟨y7, y8, y9, y10, rfl, Same.refl _⟩ (fun j σ H' _ ⟨_, _, _, _, _, e⟩ => .inl (.inl (e _ _ hp))) ?_ ?_
      · rintro j v σ Ha hv ⟨y7, y8, y9, y10, rfl, sa⟩
        obtain ⟨l, A', R', ds', us', rs', rfl, nl, nA', nR', e1, e2, e3, e4, ok'⟩ := (hall v (List.mem_of_getElem? hv)).same sa
        refine ⟨l, _, rfl, .inl (.inl e1), rfl, _, _, rfl, _, _, rfl, rfl, ?_⟩
        refine ⟨_, rfl, _, rfl, fun x' dx' nx ndx nex => init_of (K := K) (rs := rs') (f := f) (let ⟨d, t, e⟩ := hfq; ⟨d, t, sa _ _ e⟩) nx ndx nex (.inl (.inl e2)) (.inl (.inl e3)) e4 ok' fun Hb sb bb => ⟨rfl, ?_⟩⟩
        have sab := sa.trans sb
        have bx := bq.same sab
        obtain ⟨dx2, A2, R2, hx2, _⟩ := id bb
        refine ⟨_, rfl, _, rfl, _, _, dp_dI (.inl (.inl (sb _ _ e2))), dp_dI (.inl (.inl (sab _ _ hAq))), shp_dI _, shp_dI _, _, _, rfl, ?_⟩
        refine ⟨fun σ H' => σ = [some (.ref a), some (.int (0 + (i : Int))), some (.ref f), some (.ref A), some (.ref R), some (.ref x), some (.ref l7), some (.ref A'), some (.ref R'), some (.ref x'), some (.bl (decide (ds = ds') && decide (rs = rs'))), y11] ∧ H' = Hb, ?_, ?_⟩
        · refine ⟨_, rfl, _, rfl, ?_⟩
          rw [eqv_dI, sym2]
          cases decide (ds' = ds) with
          | true =>
            refine iteT ⟨_, rfl, _, rfl, _, _, dp_dRs (.inl (.inl (sb _ _ e3))) (L2.Paired.mapP e4 fun _ _ z => z.same sb), dp_dRs (.inl (.inl (sab _ _ hRq))) (L2.Paired.mapP hPq fun _ _ z => z.same sab), shp_dRs _, shp_dRs _, ?_⟩
            rw [eqv_dRs]
            exact ⟨rfl, rfl⟩
          | false => exact iteF ⟨rfl, rfl⟩
        · rintro σ H' ⟨rfl, rfl⟩
          have ty : TyX K H' (.ref x') (.ref C) := .base (.ins hx2 T.ic.cl T.ic.ha T.ic.hn T.ic.htk T.ic.hm)
          have ty0 : TyX K H' (.ref x) (.ref C) := .base (.ins (sab _ _ hxq) T.ic.cl T.ic.ha T.ic.hn T.ic.htk T.ic.hm)
          have fin : ∃ y7 y8 y9 y10 : Option V, ([some (.ref a), some (.int (0 + (i : Int))), some (.ref f), some (.ref A), some (.ref R), some (.ref x), some (.ref l7), some (.ref A'), some (.ref R'), some (.ref x'), some (.bl (decide (ds = ds') && decide (rs = rs'))), y11] : L2.St) = [some (.ref a), some (.int (0 + (i : Int))), some (.ref f), some (.ref A), some (.ref R), some (.ref x), some (.ref l7), y7, y8, y9, y10, y11] ∧ Same Hq H' := ⟨_, _, _, _, rfl, sab⟩
          refine ⟨_, rfl, _, rfl, x, dxq, _, .ref C, rfl, sab _ _ hxq, ty, T.sub, f, x, .ref x', ds, us, rs, rfl, bx, .inl ⟨f, x', ds', us', rs', rfl, bb, _, rfl, ?_⟩⟩
          refine ⟨_, rfl, rfl, _, rfl, ?_⟩
          show (if (!decide (V.bl (decide (ds = ds') && decide (rs = rs')) = V.bl (decide (ds = ds') && decide (rs = rs')))) = true then _ else _)
          refine iteNS rfl ?_
          refine ⟨_, rfl, _, rfl, x, dxq, _, .ref C, rfl, sab _ _ hxq, ty, T.sub, f, x, .ref x', ds, us, rs, rfl, bx, .inl ⟨f, x', ds', us', rs', rfl, bb, _, rfl, ?_⟩⟩
          refine ⟨_, rfl, rfl, _, rfl, ?_⟩
          show (if decide (V.bl (!(decide (ds = ds') && decide (rs = rs'))) = V.bl (decide (ds = ds') && decide (rs = rs'))) = true then _ else _)
          rw [show decide (V.bl (!(decide (ds = ds') && decide (rs = rs'))) = V.bl (decide (ds = ds') && decide (rs = rs'))) = false from by cases (decide (ds = ds') && decide (rs = rs')) <;> rfl]
          refine iteF ?_
          refine ⟨_, rfl, _, rfl, x', dx2, _, .ref C, rfl, hx2, ty0, T.sub, f, x', .ref x, ds', us', rs', rfl, bb, .inl ⟨f, x, ds, us, rs, rfl, bx, _, rfl, ?_⟩⟩
          rw [sym2 ds' ds rs' rs]
          refine ⟨_, rfl, rfl, _, rfl, ?_⟩
          show (if (!decide (V.bl (decide (ds = ds') && decide (rs = rs')) = V.bl (decide (ds = ds') && decide (rs = rs')))) = true then _ else _)
          exact iteNS rfl fin
      · rintro σ Ha ⟨y7, y8, y9, y10, rfl, sa⟩
        -- for odd in (..)
        refine ⟨_, rfl, _, rfl, _, rfl, _, rfl, two, fun t nt => ?_⟩
        have ta : Same Ha (upd Ha t (.tup [.ref A, .ref R])) := sameU nt
        have zt : upd Ha t (.tup [V.ref A, .ref R]) t = some (.tup [.ref A, .ref R]) := upd_same
        generalize upd Ha t (.tup [.ref A, .ref R]) = Hb at *
        intro d nd
        have td : Same Hb (upd Hb d (.dK [])) := sameU nd
        have zd : upd Hb d (.dK []) d = some (.dK []) := upd_same
        generalize upd Hb d (.dK []) = Hc at *
        refine ⟨(by show 7 ≤ sizeLine; decide), fun tt ntt => ?_⟩
        have tc : Same Hc (upd Hc tt (.tup [.non, .ref A, .ref R, .ref t, .str (PySem.Str.ofString ""), .int 0, .ref d])) := sameU ntt
        have ztt : upd Hc tt (.tup [V.non, .ref A, .ref R, .ref t, .str (PySem.Str.ofString ""), .int 0, .ref d]) tt = some (.tup [.non, .ref A, .ref R, .ref t, .str (PySem.Str.ofString ""), .int 0, .ref d]) := upd_same
        have uq : Same Hq (upd Hc tt (.tup [V.non, .ref A, .ref R, .ref t, .str (PySem.Str.ofString ""), .int 0, .ref d])) := sa.trans (ta.trans (td.trans tc))
        have hbt : ∀ v ∈ [V.non, .ref A, .ref R, .ref t, .str (PySem.Str.ofString ""), .int 0, .ref d], ∃ Ty, Bt K (upd Hc tt (.tup [V.non, .ref A, .ref R, .ref t, .str (PySem.Str.ofString ""), .int 0, .ref d])) v Ty ∧ Ty ∈ ["NoneType", "bool", "int", "str", "list", "tuple", "dict"] := by
          intro v hv
          simp only [List.mem_cons, List.not_mem_nil, or_false] at hv
          rcases hv with rfl | rfl | rfl | rfl | rfl | rfl | rfl
          · exact ⟨"NoneType", .base .non, by decide⟩
          · exact ⟨"list", bt_lst (.inl (.inl (uq _ _ hAq))), by decide⟩
          · exact ⟨"list", bt_lst (.inl (.inl (uq _ _ hRq))), by decide⟩
          · exact ⟨"tuple", bt_tup (.inl (.inl ((td.trans tc) _ _ zt))), by decide⟩
          · exact ⟨"str", .base (.str _), by decide⟩
          · exact ⟨"int", .base (.int _), by decide⟩
          · exact ⟨"dict", .base (.dK (tc _ _ zd)), by decide⟩
        generalize upd Hc tt (.tup [V.non, .ref A, .ref R, .ref t, .str (PySem.Str.ofString ""), .int 0, .ref d]) = Hd at *
        refine ⟨tt, rfl, ⟨_, .inl (.inl ztt)⟩, ?_⟩
        refine for_tup (K := K) (a := tt) (xs := [V.non, .ref A, .ref R, .ref t, .str (PySem.Str.ofString ""), .int 0, .ref d]) (fun j σ H' => ∃ y7 y8 y9 y10 y11 : Option V, σ = [some (.ref a), some (.int (0 + (i : Int))), some (.ref f), some (.ref A), some (.ref R), some (.ref x), some (.ref l7), y7, y8, y9, y10, y11] ∧ H' = Hd) ⟨y7, y8, y9, y10, y11, rfl, rfl⟩ (fun j σ H' _ ⟨_, _, _, _, _, _, e⟩ => e ▸ .inl (.inl ztt)) ?_ ?_
        · rintro j v σ H' hv ⟨y7, y8, y9, y10, y11, rfl, rfl⟩
          obtain ⟨Ty, hT, hm⟩ := hbt v (List.mem_of_getElem? hv)
          have bx := bq.same uq
          refine ⟨_, rfl, _, rfl, x, dxq, _, _, rfl, uq _ _ hxq, hT, (N Ty hm).2, f, x, v, ds, us, rs, rfl, bx, .inr ⟨Ty, hT, hm, _, rfl, _, rfl, ?_⟩⟩
          show (if false = true then _ else _)
          refine iteF ?_
          refine ⟨_, rfl, _, rfl, x, dxq, _, _, rfl, uq _ _ hxq, hT, (N Ty hm).2, f, x, v, ds, us, rs, rfl, bx, .inr ⟨Ty, hT, hm, _, rfl, _, rfl, ?_⟩⟩
          show (if (!(!false)) = true then _ else _)
          exact iteF ⟨_, _, _, _, _, rfl, rfl⟩
        · rintro σ H' ⟨y7, y8, y9, y10, y11, rfl, rfl⟩
          exact ⟨_, _, _, _, _, _, _, _, _, _, _, rfl, sq.trans uq⟩
    · rintro σ H1 ⟨y1, y2, y3, y4, y5, y6, y7, y8, y9, y10, y11, rfl, s1⟩
      exact q _
end
end Ew
namespace Ew
open PySem PySem.Spec PyProof.Rows L2
theorem notF {K : PySem.W.Frag} {C : Addr} {t : Value} (h : PySem.W.subIn K t (.ref C) = some false) : PySem.W.notFirst K C t = true := by
  unfold PySem.W.notFirst
  rw [h]
  simp
theorem all_mk {l : PySem.W.OpenLaw} {w : World} {K : PySem.W.Frag} {h : Heap} {mg : Str → Option Value} {fa : Addr} (X : K.In h) (G : h.Ns mainGlobals mg) (hfa : mg "law" = some (.ref fa))
    {f1 : Addr} {od1 an1 : Option Addr} {sl1 : Array (Option Value)} {oc1 kV1 dc1 pm1 cd1 ct1 : Value}
    {f2 : Addr} {od2 an2 : Option Addr} {sl2 : Array (Option Value)} {oc2 kV2 dc2 pm2 cd2 ct2 : Value}
    {f3 : Addr} {od3 an3 : Option Addr} {sl3 : Array (Option Value)} {oc3 kV3 dc3 pm3 cd3 ct3 : Value}
    {f4 : Addr} {od4 an4 : Option Addr} {sl4 : Array (Option Value)} {oc4 kV4 dc4 pm4 cd4 ct4 : Value}
    {f5 : Addr} {od5 an5 : Option Addr} {sl5 : Array (Option Value)} {oc5 kV5 dc5 pm5 cd5 ct5 : Value}
    {f6 : Addr} {od6 an6 : Option Addr} {sl6 : Array (Option Value)} {oc6 kV6 dc6 pm6 cd6 ct6 : Value}
    {f7 : Addr} {od7 an7 : Option Addr} {sl7 : Array (Option Value)} {oc7 kV7 dc7 pm7 cd7 ct7 : Value}
    {f8 : Addr} {od8 an8 : Option Addr} {sl8 : Array (Option Value)} {oc8 kV8 dc8 pm8 cd8 ct8 : Value}
    {f9 : Addr} {od9 an9 : Option Addr} {sl9 : Array (Option Value)} {oc9 kV9 dc9 pm9 cd9 ct9 : Value}
    {f10 : Addr} {od10 an10 : Option Addr} {sl10 : Array (Option Value)} {oc10 kV10 dc10 pm10 cd10 ct10 : Value}
    {f11 : Addr} {od11 an11 : Option Addr} {sl11 : Array (Option Value)} {oc11 kV11 dc11 pm11 cd11 ct11 : Value}
    {f12 : Addr} {od12 an12 : Option Addr} {sl12 : Array (Option Value)} {oc12 kV12 dc12 pm12 cd12 ct12 : Value}
    {f13 : Addr} {od13 an13 : Option Addr} {sl13 : Array (Option Value)} {oc13 kV13 dc13 pm13 cd13 ct13 : Value}
    {f14 : Addr} {od14 an14 : Option Addr} {sl14 : Array (Option Value)} {oc14 kV14 dc14 pm14 cd14 ct14 : Value}
    {C : Addr}
    {fm1 : Addr} {odm1 anm1 : Option Addr} {slm1 : Array (Option Value)} {ocm1 kVm1 dcm1 pmm1 cdm1 ctm1 : Value}
    {fm2 : Addr} {odm2 anm2 : Option Addr} {slm2 : Array (Option Value)} {ocm2 kVm2 dcm2 pmm2 cdm2 ctm2 : Value}
    {fm3 : Addr} {odm3 anm3 : Option Addr} {slm3 : Array (Option Value)} {ocm3 kVm3 dcm3 pmm3 cdm3 ctm3 : Value}
    {fm4 : Addr} {odm4 anm4 : Option Addr} {slm4 : Array (Option Value)} {ocm4 kVm4 dcm4 pmm4 cdm4 ctm4 : Value}
    {fm5 : Addr} {odm5 anm5 : Option Addr} {slm5 : Array (Option Value)} {ocm5 kVm5 dcm5 pmm5 cdm5 ctm5 : Value}
    {g0 g1 g2 : Tok}
    {xnm xq : Str} {xN : Addr} {xbs xsub : List Value} {xsn : List Str} {xab xhd : Bool} {xcol : Option Bool} {xdd : Option Addr} {x0 x1 x2 x3 x5 : Option Value} {xid : String}
    (a1 : PySem.W.nsIn K mainGlobals "is_integer" = some (some (.ref f1)))
    (l1 : K.lookup f1 = some ⟨oc1, od1, .func (PySem.W.fnOf "is_integer" "is_integer" (defArgs sIsInt) (defBody sIsInt) (defScope sIsInt) .none kV1 dc1 pm1 an1 cd1 ct1), sl1⟩)
    (c1 : PySem.W.codeIn K cd1 "is_integer" = true)
    (k1 : PySem.W.keepIn K (.ref f1) = true)
    (a2 : PySem.W.nsIn K mainGlobals "is_amount" = some (some (.ref f2)))
    (l2 : K.lookup f2 = some ⟨oc2, od2, .func (PySem.W.fnOf "is_amount" "is_amount" (defArgs sIsAmt) (defBody sIsAmt) (defScope sIsAmt) .none kV2 dc2 pm2 an2 cd2 ct2), sl2⟩)
    (c2 : PySem.W.codeIn K cd2 "is_amount" = true)
    (k2 : PySem.W.keepIn K (.ref f2) = true)
    (a3 : PySem.W.nsIn K mainGlobals "is_ascending" = some (some (.ref f3)))
    (l3 : K.lookup f3 = some ⟨oc3, od3, .func (PySem.W.fnOf "is_ascending" "is_ascending" (defArgs sIsAsc) (defBody sIsAsc) (defScope sIsAsc) .none kV3 dc3 pm3 an3 cd3 ct3), sl3⟩)
    (c3 : PySem.W.codeIn K cd3 "is_ascending" = true)
    (k3 : PySem.W.keepIn K (.ref f3) = true)
    (a4 : PySem.W.nsIn K mainGlobals "are_demands" = some (some (.ref f4)))
    (l4 : K.lookup f4 = some ⟨oc4, od4, .func (PySem.W.fnOf "are_demands" "are_demands" (defArgs sAreDem) (defBody sAreDem) (defScope sAreDem) .none kV4 dc4 pm4 an4 cd4 ct4), sl4⟩)
    (c4 : PySem.W.codeIn K cd4 "are_demands" = true)
    (k4 : PySem.W.keepIn K (.ref f4) = true)
    (a5 : PySem.W.nsIn K mainGlobals "is_reader" = some (some (.ref f5)))
    (l5 : K.lookup f5 = some ⟨oc5, od5, .func (PySem.W.fnOf "is_reader" "is_reader" (defArgs sIsRd) (defBody sIsRd) (defScope sIsRd) .none kV5 dc5 pm5 an5 cd5 ct5), sl5⟩)
    (c5 : PySem.W.codeIn K cd5 "is_reader" = true)
    (k5 : PySem.W.keepIn K (.ref f5) = true)
    (a6 : PySem.W.nsIn K mainGlobals "_law_feed" = some (some (.ref f6)))
    (l6 : K.lookup f6 = some ⟨oc6, od6, .func (PySem.W.fnOf "_law_feed" "_law_feed" (defArgs sFeed) (defBody sFeed) (defScope sFeed) .none kV6 dc6 pm6 an6 cd6 ct6), sl6⟩)
    (c6 : PySem.W.codeIn K cd6 "_law_feed" = true)
    (k6 : PySem.W.keepIn K (.ref f6) = true)
    (a7 : PySem.W.nsIn K mainGlobals "_law_take" = some (some (.ref f7)))
    (l7 : K.lookup f7 = some ⟨oc7, od7, .func (PySem.W.fnOf "_law_take" "_law_take" (defArgs sTake) (defBody sTake) (defScope sTake) .none kV7 dc7 pm7 an7 cd7 ct7), sl7⟩)
    (c7 : PySem.W.codeIn K cd7 "_law_take" = true)
    (k7 : PySem.W.keepIn K (.ref f7) = true)
    (a8 : PySem.W.nsIn K mainGlobals "_law_pick" = some (some (.ref f8)))
    (l8 : K.lookup f8 = some ⟨oc8, od8, .func (PySem.W.fnOf "_law_pick" "_law_pick" (defArgs sPick) (defBody sPick) (defScope sPick) .none kV8 dc8 pm8 an8 cd8 ct8), sl8⟩)
    (c8 : PySem.W.codeIn K cd8 "_law_pick" = true)
    (k8 : PySem.W.keepIn K (.ref f8) = true)
    (a9 : PySem.W.nsIn K mainGlobals "_law_row" = some (some (.ref f9)))
    (l9 : K.lookup f9 = some ⟨oc9, od9, .func (PySem.W.fnOf "_law_row" "_law_row" (defArgs sRow) (defBody sRow) (defScope sRow) .none kV9 dc9 pm9 an9 cd9 ct9), sl9⟩)
    (c9 : PySem.W.codeIn K cd9 "_law_row" = true)
    (k9 : PySem.W.keepIn K (.ref f9) = true)
    (a10 : PySem.W.nsIn K mainGlobals "_law_rows" = some (some (.ref f10)))
    (l10 : K.lookup f10 = some ⟨oc10, od10, .func (PySem.W.fnOf "_law_rows" "_law_rows" (defArgs sRows) (defBody sRows) (defScope sRows) .none kV10 dc10 pm10 an10 cd10 ct10), sl10⟩)
    (c10 : PySem.W.codeIn K cd10 "_law_rows" = true)
    (k10 : PySem.W.keepIn K (.ref f10) = true)
    (a11 : PySem.W.nsIn K mainGlobals "_law_times" = some (some (.ref f11)))
    (l11 : K.lookup f11 = some ⟨oc11, od11, .func (PySem.W.fnOf "_law_times" "_law_times" (defArgs sTimes) (defBody sTimes) (defScope sTimes) .none kV11 dc11 pm11 an11 cd11 ct11), sl11⟩)
    (c11 : PySem.W.codeIn K cd11 "_law_times" = true)
    (k11 : PySem.W.keepIn K (.ref f11) = true)
    (a12 : PySem.W.nsIn K mainGlobals "_law_book" = some (some (.ref f12)))
    (l12 : K.lookup f12 = some ⟨oc12, od12, .func (PySem.W.fnOf "_law_book" "_law_book" (defArgs sBook) (defBody sBook) (defScope sBook) .none kV12 dc12 pm12 an12 cd12 ct12), sl12⟩)
    (c12 : PySem.W.codeIn K cd12 "_law_book" = true)
    (k12 : PySem.W.keepIn K (.ref f12) = true)
    (a13 : PySem.W.nsIn K mainGlobals "_law_others" = some (some (.ref f13)))
    (l13 : K.lookup f13 = some ⟨oc13, od13, .func (PySem.W.fnOf "_law_others" "_law_others" (defArgs sOth) (defBody sOth) (defScope sOth) .none kV13 dc13 pm13 an13 cd13 ct13), sl13⟩)
    (c13 : PySem.W.codeIn K cd13 "_law_others" = true)
    (k13 : PySem.W.keepIn K (.ref f13) = true)
    (a14 : PySem.W.nsIn K mainGlobals "law" = some (some (.ref f14)))
    (l14 : K.lookup f14 = some ⟨oc14, od14, .func (PySem.W.fnOf "law" "law" (defArgs sLaw) (defBody sLaw) (defScope sLaw) .none kV14 dc14 pm14 an14 cd14 ct14), sl14⟩)
    (c14 : PySem.W.codeIn K cd14 "law" = true)
    (k14 : PySem.W.keepIn K (.ref f14) = true)
    (aC : PySem.W.nsIn K mainGlobals "Book" = some (some (.ref C)))
    (am1 : PySem.W.findIn K (.ref C) "__init__" = some (some (.ref fm1)))
    (im1 : PySem.W.isFn K (.ref fm1) = true)
    (lm1 : K.lookup fm1 = some ⟨ocm1, odm1, .func (PySem.W.fnOf "__init__" "Book.__init__" (defArgs sBkInit) (defBody sBkInit) (defScope sBkInit) .none kVm1 dcm1 pmm1 anm1 cdm1 ctm1), slm1⟩)
    (cm1 : PySem.W.codeIn K cdm1 "Book.__init__" = true)
    (km1 : PySem.W.keepIn K (.ref fm1) = true)
    (am2 : PySem.W.findIn K (.ref C) "demands" = some (some (.ref fm2)))
    (im2 : PySem.W.isFn K (.ref fm2) = true)
    (lm2 : K.lookup fm2 = some ⟨ocm2, odm2, .func (PySem.W.fnOf "demands" "Book.demands" (defArgs sBkDem) (defBody sBkDem) (defScope sBkDem) .none kVm2 dcm2 pmm2 anm2 cdm2 ctm2), slm2⟩)
    (cm2 : PySem.W.codeIn K cdm2 "Book.demands" = true)
    (km2 : PySem.W.keepIn K (.ref fm2) = true)
    (am3 : PySem.W.findIn K (.ref C) "readers" = some (some (.ref fm3)))
    (im3 : PySem.W.isFn K (.ref fm3) = true)
    (lm3 : K.lookup fm3 = some ⟨ocm3, odm3, .func (PySem.W.fnOf "readers" "Book.readers" (defArgs sBkRd) (defBody sBkRd) (defScope sBkRd) .none kVm3 dcm3 pmm3 anm3 cdm3 ctm3), slm3⟩)
    (cm3 : PySem.W.codeIn K cdm3 "Book.readers" = true)
    (km3 : PySem.W.keepIn K (.ref fm3) = true)
    (am4 : PySem.W.findIn K (.ref C) "__eq__" = some (some (.ref fm4)))
    (im4 : PySem.W.isFn K (.ref fm4) = true)
    (lm4 : K.lookup fm4 = some ⟨ocm4, odm4, .func (PySem.W.fnOf "__eq__" "Book.__eq__" (defArgs sBkEq) (defBody sBkEq) (defScope sBkEq) .none kVm4 dcm4 pmm4 anm4 cdm4 ctm4), slm4⟩)
    (cm4 : PySem.W.codeIn K cdm4 "Book.__eq__" = true)
    (km4 : PySem.W.keepIn K (.ref fm4) = true)
    (am5 : PySem.W.findIn K (.ref C) "__len__" = some (some (.ref fm5)))
    (im5 : PySem.W.isFn K (.ref fm5) = true)
    (lm5 : K.lookup fm5 = some ⟨ocm5, odm5, .func (PySem.W.fnOf "__len__" "Book.__len__" (defArgs sBkLen) (defBody sBkLen) (defScope sBkLen) .none kVm5 dcm5 pmm5 anm5 cdm5 ctm5), slm5⟩)
    (cm5 : PySem.W.codeIn K cdm5 "Book.__len__" = true)
    (km5 : PySem.W.keepIn K (.ref fm5) = true)
    (pg : PySem.W.plainGet K C Str.empty = true)
    (hd : PySem.W.hasDictIn K C = true)
    (po : PySem.W.plainOver K C = true)
    (sa : PySem.W.findIn K (.ref C) "__setattr__" = some (some (.builtin "object.__setattr__")))
    (mk : PySem.W.makesIn K C = true)
    (kc : PySem.W.keepIn K (.ref C) = true)
    (nD : PySem.W.findIn K (.ref C) "_demands" = some none)
    (nR : PySem.W.findIn K (.ref C) "_readers" = some none)
    (ha : PySem.W.findIn K (.ref C) "__class__" = some (some (.builtin "object.__class__")))
    (hn : PySem.W.specialIn K (.builtin "object.__class__") "__get__" = some (some (.builtin "getset_descriptor.__get__")))
    (htk : PySem.W.takesIn K (.builtin "object.__class__") = some true)
    (hm : PySem.W.mroIn K C (.type "object") = some true)
    (me : PySem.W.kitOne K (.ref C) (.ref C) = some true)
    (t0 : PySem.W.kitOne K (.type "NoneType") (.ref C) = some false)
    (u0 : PySem.W.subIn K (.type "NoneType") (.ref C) = some false)
    (t1 : PySem.W.kitOne K (.type "bool") (.ref C) = some false)
    (u1 : PySem.W.subIn K (.type "bool") (.ref C) = some false)
    (t2 : PySem.W.kitOne K (.type "int") (.ref C) = some false)
    (u2 : PySem.W.subIn K (.type "int") (.ref C) = some false)
    (t3 : PySem.W.kitOne K (.type "str") (.ref C) = some false)
    (u3 : PySem.W.subIn K (.type "str") (.ref C) = some false)
    (t4 : PySem.W.kitOne K (.type "list") (.ref C) = some false)
    (u4 : PySem.W.subIn K (.type "list") (.ref C) = some false)
    (t5 : PySem.W.kitOne K (.type "tuple") (.ref C) = some false)
    (u5 : PySem.W.subIn K (.type "tuple") (.ref C) = some false)
    (t6 : PySem.W.kitOne K (.type "dict") (.ref C) = some false)
    (u6 : PySem.W.subIn K (.type "dict") (.ref C) = some false)
    (z0 : PySem.W.nsIn K mainGlobals "len" = some none)
    (z1 : PySem.W.nsIn K mainGlobals "range" = some none)
    (z2 : PySem.W.nsIn K mainGlobals "list" = some none)
    (z3 : PySem.W.nsIn K mainGlobals "tuple" = some none)
    (z4 : PySem.W.nsIn K mainGlobals "int" = some none)
    (z5 : PySem.W.nsIn K mainGlobals "bool" = some none)
    (z6 : PySem.W.nsIn K mainGlobals "abs" = some none)
    (z7 : PySem.W.nsIn K mainGlobals "max" = some none)
    (z8 : PySem.W.nsIn K mainGlobals "min" = some none)
    (z9 : PySem.W.nsIn K mainGlobals "sorted" = some none)
    (z10 : PySem.W.nsIn K mainGlobals "enumerate" = some none)
    (z11 : PySem.W.nsIn K mainGlobals "isinstance" = some none)
    (z12 : PySem.W.nsIn K mainGlobals "all" = some none)
    (z13 : PySem.W.nsIn K mainGlobals "sum" = some none)
    (z14 : PySem.W.nsIn K mainGlobals "zip" = some none)
    (z15 : PySem.W.nsIn K mainGlobals "repr" = some none)
    (g0x : PySem.W.nsIn K mainGlobals "GREATEST_AMOUNT" = some (some (.int 6 g0)))
    (g1x : PySem.W.nsIn K mainGlobals "MOST_WORKS" = some (some (.int 6 g1)))
    (g2x : PySem.W.nsIn K mainGlobals "MOST_READERS" = some (some (.int 6 g2)))
    (ne : PySem.W.findIn K (.ref C) "__ne__" = some (some (.builtin "object.__ne__")))
    (xC : K.lookup C = some (excClassObj xnm xq C xN xbs [.type "object"] xhd xsn xsub xab xcol xdd x0 x1 x2 x3 x5 xid)) :
    ∃ fd : FuncData, (∀ (s : Shared) (v : Value), BindsTo s fd ⟨[v], []⟩ [("script", v)]) ∧ ∀ base : Heap, K.In base → base.Ns mainGlobals mg → FnOk l.prog w K mg base CX0 6 fa fd ["script"] (spLaw K) := by
  have e := hfa.symm.trans (PySem.W.mg_of X G a14)
  cases e
  have F1 := fun_mk (st := sIsInt) l1 c1 k1
  have b1 := F1.binds (ps := ["value"]) fun _ _ _ _ _ _ us hl => match us, hl with | [_], _ => rfl
  have F2 := fun_mk (st := sIsAmt) l2 c2 k2
  have b2 := F2.binds (ps := ["value"]) fun _ _ _ _ _ _ us hl => match us, hl with | [_], _ => rfl
  have F3 := fun_mk (st := sIsAsc) l3 c3 k3
  have b3 := F3.binds (ps := ["value", "many"]) fun _ _ _ _ _ _ us hl => match us, hl with | [_, _], _ => rfl
  have F4 := fun_mk (st := sAreDem) l4 c4 k4
  have b4 := F4.binds (ps := ["value"]) fun _ _ _ _ _ _ us hl => match us, hl with | [_], _ => rfl
  have F5 := fun_mk (st := sIsRd) l5 c5 k5
  have b5 := F5.binds (ps := ["value", "many"]) fun _ _ _ _ _ _ us hl => match us, hl with | [_, _], _ => rfl
  have F6 := fun_mk (st := sFeed) l6 c6 k6
  have b6 := F6.binds (ps := ["script", "k"]) fun _ _ _ _ _ _ us hl => match us, hl with | [_, _], _ => rfl
  have F7 := fun_mk (st := sTake) l7 c7 k7
  have b7 := F7.binds (ps := ["feed", "many"]) fun _ _ _ _ _ _ us hl => match us, hl with | [_, _], _ => rfl
  have F8 := fun_mk (st := sPick) l8 c8 k8
  have b8 := F8.binds (ps := ["feed", "some"]) fun _ _ _ _ _ _ us hl => match us, hl with | [_, _], _ => rfl
  have F9 := fun_mk (st := sRow) l9 c9 k9
  have b9 := F9.binds (ps := ["feed", "reader"]) fun _ _ _ _ _ _ us hl => match us, hl with | [_, _], _ => rfl
  have F10 := fun_mk (st := sRows) l10 c10 k10
  have b10 := F10.binds (ps := ["feed", "readers", "absent"]) fun _ _ _ _ _ _ us hl => match us, hl with | [_, _, _], _ => rfl
  have F11 := fun_mk (st := sTimes) l11 c11 k11
  have b11 := F11.binds (ps := ["rows", "works"]) fun _ _ _ _ _ _ us hl => match us, hl with | [_, _], _ => rfl
  have F12 := fun_mk (st := sBook) l12 c12 k12
  have b12 := F12.binds (ps := ["feed", "most_works", "most_readers"]) fun _ _ _ _ _ _ us hl => match us, hl with | [_, _, _], _ => rfl
  have F13 := fun_mk (st := sOth) l13 c13 k13
  have b13 := F13.binds (ps := ["feed", "demands", "readers"]) fun _ _ _ _ _ _ us hl => match us, hl with | [_, _, _], _ => rfl
  have F14 := fun_mk (st := sLaw) l14 c14 k14
  have b14 := F14.binds (ps := ["script"]) fun _ _ _ _ _ _ us hl => match us, hl with | [_], _ => rfl
  have Fm1 := fun_mk (st := sBkInit) lm1 cm1 km1
  have bm1 := Fm1.binds (ps := ["self", "demands", "readers"]) fun _ _ _ _ _ _ us hl => match us, hl with | [_, _, _], _ => rfl
  have Fm2 := fun_mk (st := sBkDem) lm2 cm2 km2
  have bm2 := Fm2.binds (ps := ["self"]) fun _ _ _ _ _ _ us hl => match us, hl with | [_], _ => rfl
  have Fm3 := fun_mk (st := sBkRd) lm3 cm3 km3
  have bm3 := Fm3.binds (ps := ["self"]) fun _ _ _ _ _ _ us hl => match us, hl with | [_], _ => rfl
  have Fm4 := fun_mk (st := sBkEq) lm4 cm4 km4
  have bm4 := Fm4.binds (ps := ["self", "other"]) fun _ _ _ _ _ _ us hl => match us, hl with | [_, _], _ => rfl
  have Fm5 := fun_mk (st := sBkLen) lm5 cm5 km5
  have bm5 := Fm5.binds (ps := ["self"]) fun _ _ _ _ _ _ us hl => match us, hl with | [_], _ => rfl
  have B : Bi mg := ⟨PySem.W.mg_none_of X G z0, PySem.W.mg_none_of X G z1, PySem.W.mg_none_of X G z2, PySem.W.mg_none_of X G z3, PySem.W.mg_none_of X G z4, PySem.W.mg_none_of X G z5, PySem.W.mg_none_of X G z6, PySem.W.mg_none_of X G z7, PySem.W.mg_none_of X G z8, PySem.W.mg_none_of X G z9, PySem.W.mg_none_of X G z10, PySem.W.mg_none_of X G z11, PySem.W.mg_none_of X G z12, PySem.W.mg_none_of X G z13, PySem.W.mg_none_of X G z14, PySem.W.mg_none_of X G z15⟩
  have L : Low K mg := ⟨B, ⟨_, _, F6, b6, PySem.W.mg_of X G a6⟩, ⟨_, _, F7, b7, PySem.W.mg_of X G a7⟩, ⟨_, _, F8, b8, PySem.W.mg_of X G a8⟩, ⟨_, _, F9, b9, PySem.W.mg_of X G a9⟩, ⟨_, _, F10, b10, PySem.W.mg_of X G a10⟩, ⟨_, _, F11, b11, PySem.W.mg_of X G a11⟩, ⟨_, _, F12, b12, PySem.W.mg_of X G a12⟩⟩
  have V1 : Vals1 K mg := ⟨B, ⟨_, PySem.W.mg_of X G g0x⟩, ⟨_, PySem.W.mg_of X G g1x⟩, ⟨_, PySem.W.mg_of X G g2x⟩, ⟨_, _, F1, b1, PySem.W.mg_of X G a1⟩, ⟨_, _, F2, b2, PySem.W.mg_of X G a2⟩, ⟨_, _, F3, b3, PySem.W.mg_of X G a3⟩, ⟨_, _, F4, b4, PySem.W.mg_of X G a4⟩, ⟨_, _, F5, b5, PySem.W.mg_of X G a5⟩⟩
  have cl : Cls K C := ⟨pg, hd, po, sa⟩
  have TB : BookTxt K mg C := ⟨cl, nD, nR, PySem.W.mg_of X G aC, ⟨_, _, Fm1, bm1, ⟨mk, am1, im1, kc⟩⟩, ⟨_, _, Fm2, bm2, ⟨am2, im2, km2⟩⟩, ⟨_, _, Fm3, bm3, ⟨am3, im3, km3⟩⟩, ⟨_, _, Fm4, bm4, ⟨am4, im4, km4⟩⟩, ⟨cl, ha, hn, htk, hm, me⟩, by simp [PySem.W.notFirst]⟩
  have N : NoBook K C := by
    intro T hT
    simp only [List.mem_cons, List.not_mem_nil, or_false] at hT
    rcases hT with rfl | rfl | rfl | rfl | rfl | rfl | rfl
    · exact ⟨t0, notF u0⟩
    · exact ⟨t1, notF u1⟩
    · exact ⟨t2, notF u2⟩
    · exact ⟨t3, notF u3⟩
    · exact ⟨t4, notF u4⟩
    · exact ⟨t5, notF u5⟩
    · exact ⟨t6, notF u6⟩
  have LT : LenTxt K C := ⟨⟨_, _, Fm5, bm5, ⟨am5, im5, km5⟩⟩, ne, ⟨_, _, _, _, _, _, _, _, _, _, _, _, _, _, _, _, _, xC, by decide +kernel⟩⟩
  exact ⟨PySem.W.fnOf "law" "law" (defArgs sLaw) (defBody sLaw) (defScope sLaw) .none kV14 dc14 pm14 an14 cd14 ct14, fun s v => .of_eq rfl, fun base _ _ => ok_law F14 L V1 TB LT N ⟨_, _, F13, b13, PySem.W.mg_of X G a13⟩⟩
end Ew
open PySem PySem.W PyProof.Rows in
set_option maxRecDepth 100000 in
set_option maxHeartbeats 0 in
theorem PySem.Challenge.cw_eachworkread_k02_books_holds : PySem.Challenge.rw_eachworkread_k02_books.Holds := by
  w_on; o_law; k_head; (case hw => w_witness2)
  k_fill
  refine L2.walk_of (l := PySem.Challenge.rw_eachworkread_k02_books) (n := 63) (k := 6) (x := "script") (CX := fun _ => L2.CX0) (sp := fun w => Ew.spLaw _) rfl (by decide) rfl ⟨rfl, by decide, by decide⟩ (fun w h Y => PySem.W.kIn_of Y) ?F (fun _ _ a ns hl _ hS => ⟨a, ns, rfl, hS, hl, fun _ => rfl⟩) (fun _ _ _ _ _ h => h)
  case F =>
    intro w mg fa h KX G hmg
    refine' Ew.all_mk KX G hmg ?a1 ?l1 ?c1 ?k1 ?a2 ?l2 ?c2 ?k2 ?a3 ?l3 ?c3 ?k3 ?a4 ?l4 ?c4 ?k4 ?a5 ?l5 ?c5 ?k5 ?a6 ?l6 ?c6 ?k6 ?a7 ?l7 ?c7 ?k7 ?a8 ?l8 ?c8 ?k8 ?a9 ?l9 ?c9 ?k9 ?a10 ?l10 ?c10 ?k10 ?a11 ?l11 ?c11 ?k11 ?a12 ?l12 ?c12 ?k12 ?a13 ?l13 ?c13 ?k13 ?a14 ?l14 ?c14 ?k14 ?aC ?am1 ?im1 ?lm1 ?cm1 ?km1 ?am2 ?im2 ?lm2 ?cm2 ?km2 ?am3 ?im3 ?lm3 ?cm3 ?km3 ?am4 ?im4 ?lm4 ?cm4 ?km4 ?am5 ?im5 ?lm5 ?cm5 ?km5 ?pg ?hd ?po ?sa ?mk ?kc ?nD ?nR ?ha ?hn ?htk ?hm ?me ?t0 ?u0 ?t1 ?u1 ?t2 ?u2 ?t3 ?u3 ?t4 ?u4 ?t5 ?u5 ?t6 ?u6 ?z0 ?z1 ?z2 ?z3 ?z4 ?z5 ?z6 ?z7 ?z8 ?z9 ?z10 ?z11 ?z12 ?z13 ?z14 ?z15 ?g0x ?g1x ?g2x ?ne ?xC
    (case a1 => k_is)
    (case l1 => k_is)
    (case c1 => k_is)
    (case k1 => k_is)
    (case a2 => k_is)
    (case l2 => k_is)
    (case c2 => k_is)
    (case k2 => k_is)
    (case a3 => k_is)
    (case l3 => k_is)
    (case c3 => k_is)
    (case k3 => k_is)
    (case a4 => k_is)
    (case l4 => k_is)
    (case c4 => k_is)
    (case k4 => k_is)
    (case a5 => k_is)
    (case l5 => k_is)
    (case c5 => k_is)
    (case k5 => k_is)
    (case a6 => k_is)
    (case l6 => k_is)
    (case c6 => k_is)
    (case k6 => k_is)
    (case a7 => k_is)
    (case l7 => k_is)
    (case c7 => k_is)
    (case k7 => k_is)
    (case a8 => k_is)
    (case l8 => k_is)
    (case c8 => k_is)
    (case k8 => k_is)
    (case a9 => k_is)
    (case l9 => k_is)
    (case c9 => k_is)
    (case k9 => k_is)
    (case a10 => k_is)
    (case l10 => k_is)
    (case c10 => k_is)
    (case k10 => k_is)
    (case a11 => k_is)
    (case l11 => k_is)
    (case c11 => k_is)
    (case k11 => k_is)
    (case a12 => k_is)
    (case l12 => k_is)
    (case c12 => k_is)
    (case k12 => k_is)
    (case a13 => k_is)
    (case l13 => k_is)
    (case c13 => k_is)
    (case k13 => k_is)
    (case a14 => k_is)
    (case l14 => k_is)
    (case c14 => k_is)
    (case k14 => k_is)
    (case aC => k_is)
    (case am1 => k_is)
    (case im1 => k_is)
    (case lm1 => k_is)
    (case cm1 => k_is)
    (case km1 => k_is)
    (case am2 => k_is)
    (case im2 => k_is)
    (case lm2 => k_is)
    (case cm2 => k_is)
    (case km2 => k_is)
    (case am3 => k_is)
    (case im3 => k_is)
    (case lm3 => k_is)
    (case cm3 => k_is)
    (case km3 => k_is)
    (case am4 => k_is)
    (case im4 => k_is)
    (case lm4 => k_is)
    (case cm4 => k_is)
    (case km4 => k_is)
    (case am5 => k_is)
    (case im5 => k_is)
    (case lm5 => k_is)
    (case cm5 => k_is)
    (case km5 => k_is)
    (case pg => k_is)
    (case hd => k_is)
    (case po => k_is)
    (case sa => k_is)
    (case mk => k_is)
    (case kc => k_is)
    (case nD => k_is)
    (case nR => k_is)
    (case ha => k_is)
    (case hn => k_is)
    (case htk => k_is)
    (case hm => k_is)
    (case me => kit_is)
    (case t0 => kit_is)
    (case u0 => k_is)
    (case t1 => kit_is)
    (case u1 => k_is)
    (case t2 => kit_is)
    (case u2 => k_is)
    (case t3 => kit_is)
    (case u3 => k_is)
    (case t4 => kit_is)
    (case u4 => k_is)
    (case t5 => kit_is)
    (case u5 => k_is)
    (case t6 => kit_is)
    (case u6 => k_is)
    (case z0 => k_is)
    (case z1 => k_is)
    (case z2 => k_is)
    (case z3 => k_is)
    (case z4 => k_is)
    (case z5 => k_is)
    (case z6 => k_is)
    (case z7 => k_is)
    (case z8 => k_is)
    (case z9 => k_is)
    (case z10 => k_is)
    (case z11 => k_is)
    (case z12 => k_is)
    (case z13 => k_is)
    (case z14 => k_is)
    (case z15 => k_is)
    (case g0x => k_is)
    (case g1x => k_is)
    (case g2x => k_is)
    (case ne => k_is)
    (case xC => k_is)
