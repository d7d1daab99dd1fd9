import PyProof.Rows.All
import Wide.All
import OpenK.AllK
import Wide.FinOn
import HandS.ForMost
import HandS.IsInst
import HandS.OwnEq
import HandS.Walk
import HandS.Codes
import HandS.RaiseMore
import HandS.Style
import HandS.NoneIn
import HandS.Rev
import HandS.TupAny
import PyProof.ReprRoads
import HandS.Conv
import HandS.Strs
import HandS.SetFor
import HandS.TupLe
import PySem.Challenge.RW_eachworkread_k05_rows_judged
set_option Elab.async false
set_option linter.all false
set_option maxRecDepth 100000
/-! What all laws share: heaps, the feed, readers and rows as data. -/
namespace Ew
open PySem PySem.Spec PyProof.Rows L2
/-! ### heaps -/
/-- the feed at f: two ints -/
def FeedAt (H : Hp) (f : Addr) : Prop := ∃ d s : Int, H f = some (.lst [.int d, .int s])
/-- all but the feed is as it was -/
def Ext1 (f : Addr) (H H' : Hp) : Prop := (∀ b o, b ≠ f → H b = some o → H' b = some o) ∧ FeedAt H' f
theorem Ext1.refl {f : Addr} {H : Hp} (h : FeedAt H f) : Ext1 f H H := ⟨fun _ _ _ e => e, h⟩
theorem Ext1.trans {f : Addr} {H H1 H2 : Hp} (a : Ext1 f H H1) (b : Ext1 f H1 H2) : Ext1 f H H2 := ⟨fun c o n e => b.1 c o n (a.1 c o n e), b.2⟩
theorem Ext1.feed {f : Addr} {H H' : Hp} (a : Ext1 f H H') : FeedAt H' f := a.2
theorem Ext1.put {f : Addr} {H : Hp} {d s : Int} : Ext1 f H (upd H f (.lst [.int d, .int s])) := ⟨fun b o n e => by rw [upd_ne n]; exact e, d, s, upd_same⟩
theorem Ext1.new {f p : Addr} {H H1 : Hp} {o : HO} (a : Ext1 f H H1) (n : H1 p = none) : Ext1 f H (upd H1 p o) := by
  obtain ⟨d, s, e⟩ := a.2
  exact ⟨fun b u nb eb => by rw [upd_ne (ne_of_none (a.1 b u nb eb) n)]; exact a.1 b u nb eb, d, s, by rw [upd_ne (ne_of_none e n)]; exact e⟩
/-- an object that was not there may be written -/
theorem Ext1.own {f p : Addr} {H H1 : Hp} {o : HO} (a : Ext1 f H H1) (n : H p = none) (nf : p ≠ f) : Ext1 f H (upd H1 p o) := by
  obtain ⟨d, s, e⟩ := a.2
  refine ⟨fun b u nb eb => ?_, d, s, by rw [upd_ne (Ne.symm nf)]; exact e⟩
  have : b ≠ p := fun z => by rw [z, n] at eb; cases eb
  rw [upd_ne this]
  exact a.1 b u nb eb
theorem Ext1.same {f : Addr} {H H' : Hp} (h : FeedAt H f) (s : Same H H') : Ext1 f H H' := ⟨fun b o _ e => s b o e, let ⟨d, t, e⟩ := h; ⟨d, t, s _ _ e⟩⟩
theorem Ext1.free {f p : Addr} {H H' : Hp} (a : Ext1 f H H') (h : H' p = none) : H p = none := by
  cases q : H p with
  | none => rfl
  | some o =>
    by_cases e : p = f
    · subst e
      obtain ⟨d, s, z⟩ := a.2
      rw [z] at h; cases h
    · rw [a.1 _ _ e q] at h; cases h
theorem FeedAt.ne {H : Hp} {f p : Addr} (h : FeedAt H f) (n : H p = none) : p ≠ f := fun e => by
  obtain ⟨d, s, z⟩ := h
  rw [e, z] at n; cases n
section
variable {K : PySem.W.Frag} {f : Addr} {H H' : Hp}
theorem Ext1.sqT {t : Addr} {xs : List V} (a : Ext1 f H H') (hf : FeedAt H f) (h : SqT K H t xs) : SqT K H' t xs := by
  obtain ⟨d, s, z⟩ := hf
  rcases h with (h | ⟨o, h⟩) | h
  · exact .inl (.inl (a.1 _ _ (fun e => by rw [e, z] at h; cases h) h))
  · exact .inl (.inr ⟨o, a.1 _ _ (fun e => by rw [e, z] at h; cases h) h⟩)
  · exact .inr h
theorem Ext1.sqL {t : Addr} {xs : List V} (a : Ext1 f H H') (nf : t ≠ f) (h : SqL K H t xs) : SqL K H' t xs := by
  rcases h with (h | ⟨o, h⟩) | h
  · exact .inl (.inl (a.1 _ _ nf h))
  · exact .inl (.inr ⟨o, a.1 _ _ nf h⟩)
  · exact .inr h
theorem sameT {t : Addr} {xs : List V} (e : Same H H') (h : SqT K H t xs) : SqT K H' t xs := by
  rcases h with (h | ⟨o, h⟩) | h
  · exact .inl (.inl (e _ _ h))
  · exact .inl (.inr ⟨o, e _ _ h⟩)
  · exact .inr h
end
theorem sameU {H : Hp} {p : Addr} {o : HO} (h : H p = none) : Same H (upd H p o) := fun b x e => by
  rw [upd_ne (ne_of_none e h)]
  exact e
/-! ### rows and readers -/
/-- what is true of a set, a row: ascending, of numbers from 0 below n -/
def Asc (n : Int) (r : List Int) : Prop := r.Pairwise (· < ·) ∧ ∀ x ∈ r, 0 ≤ x ∧ x < n
/-- a tuple of ints -/
def RowT (K : PySem.W.Frag) (H : Hp) (v : V) (r : List Int) : Prop := ∃ t, v = .ref t ∧ SqT K H t (r.map V.int)
/-- a reader: limit, may -/
def RdT (K : PySem.W.Frag) (H : Hp) (v : V) (r : Int × List Int) : Prop := ∃ t m, v = .ref t ∧ SqT K H t [.int r.1, .ref m] ∧ SqT K H m (r.2.map V.int)
def RdOk (n : Int) (r : Int × List Int) : Prop := 0 ≤ r.1 ∧ r.1 ≤ 6 ∧ Asc n r.2
def RowOk (r : Int × List Int) (w : List Int) : Prop := w.Pairwise (· < ·) ∧ (∀ x ∈ w, x ∈ r.2) ∧ (w.length : Int) ≤ r.1
def RdL (K : PySem.W.Frag) (H : Hp) (a : Addr) (rs : List (Int × List Int)) : Prop := ∃ vs, SqL K H a vs ∧ Paired (RdT K H) vs rs
def RowL (K : PySem.W.Frag) (H : Hp) (a : Addr) (ws : List (List Int)) : Prop := ∃ vs, SqL K H a vs ∧ Paired (RowT K H) vs ws
section
variable {K : PySem.W.Frag} {f : Addr} {H H' : Hp}
theorem RowT.ext {v : V} {r : List Int} (a : Ext1 f H H') (hf : FeedAt H f) (h : RowT K H v r) : RowT K H' v r := let ⟨t, e, q⟩ := h; ⟨t, e, a.sqT hf q⟩
theorem RdT.ext {v : V} {r : Int × List Int} (a : Ext1 f H H') (hf : FeedAt H f) (h : RdT K H v r) : RdT K H' v r := let ⟨t, m, e, q, q2⟩ := h; ⟨t, m, e, a.sqT hf q, a.sqT hf q2⟩
theorem RowT.same {v : V} {r : List Int} (a : Same H H') (h : RowT K H v r) : RowT K H' v r := let ⟨t, e, q⟩ := h; ⟨t, e, sameT a q⟩
theorem RdT.same {v : V} {r : Int × List Int} (a : Same H H') (h : RdT K H v r) : RdT K H' v r := let ⟨t, m, e, q, q2⟩ := h; ⟨t, m, e, sameT a q, sameT a q2⟩
theorem RdL.ext {p : Addr} {rs : List (Int × List Int)} (a : Ext1 f H H') (hf : FeedAt H f) (nf : p ≠ f) (h : RdL K H p rs) : RdL K H' p rs := let ⟨vs, q, r⟩ := h; ⟨vs, a.sqL nf q, L2.Paired.mapP r fun _ _ z => z.ext a hf⟩
theorem RowL.ext {p : Addr} {rs : List (List Int)} (a : Ext1 f H H') (hf : FeedAt H f) (nf : p ≠ f) (h : RowL K H p rs) : RowL K H' p rs := let ⟨vs, q, r⟩ := h; ⟨vs, a.sqL nf q, L2.Paired.mapP r fun _ _ z => z.ext a hf⟩
theorem RdL.same {p : Addr} {rs : List (Int × List Int)} (a : Same H H') (h : RdL K H p rs) : RdL K H' p rs := let ⟨vs, q, r⟩ := h; ⟨vs, a.seq q, L2.Paired.mapP r fun _ _ z => z.same a⟩
theorem RowL.same {p : Addr} {rs : List (List Int)} (a : Same H H') (h : RowL K H p rs) : RowL K H' p rs := let ⟨vs, q, r⟩ := h; ⟨vs, a.seq q, L2.Paired.mapP r fun _ _ z => z.same a⟩
end
section
variable {K : PySem.W.Frag} {H : Hp} {D : Addr} {xs : List V} {o : HO}
/-- a list is written: tuples stand -/
theorem sqT_upd {t : Addr} {ys : List V} (e : H D = some (.lst xs)) (h : SqT K H t ys) : SqT K (upd H D o) t ys := by
  rcases h with (h | ⟨o', h⟩) | h
  · exact .inl (.inl (by rw [upd_ne (fun z => by rw [z, e] at h; cases h)]; exact h))
  · exact .inl (.inr ⟨o', by rw [upd_ne (fun z => by rw [z, e] at h; cases h)]; exact h⟩)
  · exact .inr h
theorem RowT.upd {v : V} {r : List Int} (e : H D = some (.lst xs)) (h : RowT K H v r) : RowT K (upd H D o) v r := let ⟨t, a, q⟩ := h; ⟨t, a, sqT_upd e q⟩
theorem RdT.upd {v : V} {r : Int × List Int} (e : H D = some (.lst xs)) (h : RdT K H v r) : RdT K (upd H D o) v r := let ⟨t, m, a, q, q2⟩ := h; ⟨t, m, a, sqT_upd e q, sqT_upd e q2⟩
end
theorem Paired.at1 {α β : Type} {R : α → β → Prop} : ∀ {xs : List α} {ys : List β} {i : Nat} {x : α}, Paired R xs ys → xs[i]? = some x → ∃ y, ys[i]? = some y ∧ R x y
  | _, _, _, _, .nil, e => by simp at e
  | _, _, 0, _, .cons r _, e => by simp at e; subst e; exact ⟨_, rfl, r⟩
  | _, _, i + 1, x, .cons _ t, e => by
    obtain ⟨u, h1, h2⟩ := Paired.at1 (i := i) (x := x) t (by simpa using e)
    exact ⟨u, by simpa using h1, h2⟩
theorem Paired.at2 {α β : Type} {R : α → β → Prop} : ∀ {xs : List α} {ys : List β} {i : Nat} {y : β}, Paired R xs ys → ys[i]? = some y → ∃ x, xs[i]? = some x ∧ R x y
  | _, _, _, _, .nil, e => by simp at e
  | _, _, 0, _, .cons r _, e => by simp at e; subst e; exact ⟨_, rfl, r⟩
  | _, _, i + 1, x, .cons _ t, e => by
    obtain ⟨u, h1, h2⟩ := Paired.at2 (i := i) (y := x) t (by simpa using e)
    exact ⟨u, by simpa using h1, h2⟩
theorem Paired.snoc {α β : Type} {R : α → β → Prop} : ∀ {xs : List α} {ys : List β} {x : α} {y : β}, Paired R xs ys → R x y → Paired R (xs ++ [x]) (ys ++ [y])
  | _, _, _, _, .nil, h => .cons h .nil
  | _, _, _, _, .cons r t, h => .cons r (Paired.snoc t h)
theorem Paired.set' {α β : Type} {R : α → β → Prop} {x : α} {y : β} : ∀ {xs : List α} {ys : List β} (n : Nat), Paired R xs ys → R x y → Paired R (xs.set n x) (ys.set n y)
  | _, _, _, .nil, _ => .nil
  | _, _, 0, .cons _ t, h => .cons h t
  | _, _, n + 1, .cons r t, h => .cons r (Paired.set' n t h)
/-! ### what of the built-in names the text leaves as it is -/
structure Bi (mg : Str → Option Value) : Prop where
  len : mg "len" = none
  range : mg "range" = none
  list : mg "list" = none
  tuple : mg "tuple" = none
  int : mg "int" = none
  bool : mg "bool" = none
  abs : mg "abs" = none
  max : mg "max" = none
  min : mg "min" = none
  sorted : mg "sorted" = none
  enumerate : mg "enumerate" = none
  isinstance : mg "isinstance" = none
  all : mg "all" = none
  sum : mg "sum" = none
  zip : mg "zip" = none
  repr : mg "repr" = none
theorem take_more {α : Type} : ∀ {l : List α} {i : Nat} {x : α}, l[i]? = some x → l.take (i + 1) = l.take i ++ [x]
  | [], i, x, h => by simp at h
  | a :: l, 0, x, h => by
    have e : a = x := Option.some.inj h
    subst e
    rfl
  | a :: l, i + 1, x, h => by
    have ih := take_more (l := l) (i := i) (x := x) h
    show a :: l.take (i + 1) = a :: l.take i ++ [x]
    rw [ih]
    rfl
theorem szL {n : Nat} (h : n ≤ 1000000) : n ≤ sizeLine := Nat.le_trans h (by decide)
theorem szl {n : Nat} (h : n ≤ 1000000) : n < sizeLine := Nat.lt_of_le_of_lt h (by decide)
end Ew
namespace Ew
open PySem PySem.Spec PyProof.Rows L2
/-! ### rows and readers as data -/
section
variable {α : Type} (g : α → PyData)
theorem layAll_map (h : ∀ x, PyData.canLay0 (g x) = true) : ∀ l : List α, PyData.canLayAll0 (l.map g) = true
  | [] => rfl
  | x :: l => by
    show (PyData.canLay0 (g x) && PyData.canLayAll0 (l.map g)) = true
    rw [h x, layAll_map h l]
    rfl
theorem depAll_map {n : Nat} (h : ∀ x, PyData.depth (g x) ≤ n) : ∀ l : List α, PyData.depthAll (l.map g) ≤ n
  | [] => Nat.zero_le _
  | x :: l => by
    show max (PyData.depth (g x)) (PyData.depthAll (l.map g)) ≤ n
    exact Nat.max_le.mpr ⟨h x, depAll_map h l⟩
theorem eqvAll_inj [DecidableEq α] (h : ∀ x y, PyData.eqv (g x) (g y) = decide (x = y)) : ∀ xs ys : List α, PyData.eqvAll (xs.map g) (ys.map g) = decide (xs = ys)
  | [], [] => by simp [PyData.eqvAll]
  | [], _ :: _ => by simp [PyData.eqvAll]
  | _ :: _, [] => by simp [PyData.eqvAll]
  | x :: xs, y :: ys => by
    show (PyData.eqv (g x) (g y) && PyData.eqvAll (xs.map g) (ys.map g)) = _
    rw [h x y, eqvAll_inj h xs ys]
    by_cases e1 : x = y
    · subst e1
      by_cases e2 : xs = ys
      · subst e2; simp
      · simp [e2]
    · simp [e1]
end
def dI (l : List Int) : PyData := .list (l.map .int)
def dT (l : List Int) : PyData := .tuple (l.map .int)
def dR (r : Int × List Int) : PyData := .tuple [.int r.1, dT r.2]
def dRs (rs : List (Int × List Int)) : PyData := .list (rs.map dR)
def dWs (ws : List (List Int)) : PyData := .list (ws.map dT)
theorem eqv_int (x y : Int) : PyData.eqv (.int x) (.int y) = decide (x = y) := by
  simp [PyData.eqv]
  by_cases h : x = y <;> simp [h]
theorem eqv_dT (x y : List Int) : PyData.eqv (dT x) (dT y) = decide (x = y) := by
  show PyData.eqvAll (x.map .int) (y.map .int) = _
  exact eqvAll_inj _ eqv_int x y
theorem eqv_dI (x y : List Int) : PyData.eqv (dI x) (dI y) = decide (x = y) := by
  show PyData.eqvAll (x.map .int) (y.map .int) = _
  exact eqvAll_inj _ eqv_int x y
theorem eqv_dR (x y : Int × List Int) : PyData.eqv (dR x) (dR y) = decide (x = y) := by
  show PyData.eqvAll [.int x.1, dT x.2] [.int y.1, dT y.2] = _
  show (PyData.eqv (.int x.1) (.int y.1) && (PyData.eqv (dT x.2) (dT y.2) && true)) = _
  rw [eqv_int, eqv_dT]
  obtain ⟨a, b⟩ := x
  obtain ⟨c, d⟩ := y
  by_cases h1 : a = c <;> by_cases h2 : b = d <;> simp [h1, h2]
theorem eqv_dRs (x y : List (Int × List Int)) : PyData.eqv (dRs x) (dRs y) = decide (x = y) := by
  show PyData.eqvAll (x.map dR) (y.map dR) = _
  exact eqvAll_inj _ eqv_dR x y
theorem eqv_dWs (x y : List (List Int)) : PyData.eqv (dWs x) (dWs y) = decide (x = y) := by
  show PyData.eqvAll (x.map dT) (y.map dT) = _
  exact eqvAll_inj _ eqv_dT x y
theorem lay_dT (l : List Int) : PyData.canLay0 (dT l) = true := layAll_map PyData.int (fun _ => rfl) l
theorem dep_dT (l : List Int) : PyData.depth (dT l) ≤ 1 := Nat.succ_le_succ (depAll_map PyData.int (n := 0) (fun _ => Nat.le_refl _) l)
theorem lay_dR (r : Int × List Int) : PyData.canLay0 (dR r) = true := by
  show (true && (PyData.canLay0 (dT r.2) && true)) = true
  rw [lay_dT]
  rfl
theorem dep_dR (r : Int × List Int) : PyData.depth (dR r) ≤ 2 := by
  show max 0 (max (PyData.depth (dT r.2)) 0) + 1 ≤ 2
  have := dep_dT r.2
  omega
theorem shp {d : PyData} {n : Nat} (h1 : PyData.canLay0 d = true) (h2 : PyData.depth d ≤ n) (h3 : n ≤ 64) : SeqAt.shaped d = true := by
  unfold SeqAt.shaped
  rw [h1, decide_eq_true (Nat.le_trans h2 h3)]
  rfl
theorem shp_dT (l : List Int) : SeqAt.shaped (dT l) = true := shp (lay_dT l) (dep_dT l) (by decide)
theorem shp_dI (l : List Int) : SeqAt.shaped (dI l) = true := shp (layAll_map PyData.int (fun _ => rfl) l) (Nat.succ_le_succ (depAll_map PyData.int (n := 0) (fun _ => Nat.le_refl _) l)) (n := 1) (by decide)
theorem shp_dRs (rs : List (Int × List Int)) : SeqAt.shaped (dRs rs) = true := shp (layAll_map dR lay_dR rs) (Nat.succ_le_succ (depAll_map dR dep_dR rs)) (n := 3) (by decide)
theorem shp_dWs (ws : List (List Int)) : SeqAt.shaped (dWs ws) = true := shp (layAll_map dT lay_dT ws) (Nat.succ_le_succ (depAll_map dT dep_dT ws)) (n := 2) (by decide)
section
variable {K : PySem.W.Frag} {H : Hp}
theorem dpAll_ints : ∀ l : List Int, DpAll K H (l.map V.int) (l.map PyData.int)
  | [] => .nil
  | _ :: l => .cons (.int _) (dpAll_ints l)
theorem dpAll_map {α : Type} {R : V → α → Prop} {g : α → PyData} (h : ∀ v a, R v a → Dp K H v (g a)) : ∀ {vs : List V} {as : List α}, Paired R vs as → DpAll K H vs (as.map g)
  | _, _, .nil => .nil
  | _, _, .cons r t => .cons (h _ _ r) (dpAll_map h t)
theorem dp_dI {a : Addr} {l : List Int} (h : SqL K H a (l.map V.int)) : Dp K H (.ref a) (dI l) := .lst h (dpAll_ints l)
theorem dp_dT {v : V} {l : List Int} (h : RowT K H v l) : Dp K H v (dT l) := let ⟨_, e, q⟩ := h; e ▸ .tup q (dpAll_ints l)
theorem dp_dR {v : V} {r : Int × List Int} (h : RdT K H v r) : Dp K H v (dR r) := let ⟨_, _, e, q, q2⟩ := h; e ▸ .tup q (.cons (.int _) (.cons (dp_dT ⟨_, rfl, q2⟩) .nil))
theorem dp_dRs {a : Addr} {us : List V} {rs : List (Int × List Int)} (h : SqL K H a us) (p : Paired (RdT K H) us rs) : Dp K H (.ref a) (dRs rs) := .lst h (dpAll_map (g := dR) (fun _ _ z => dp_dR z) p)
theorem dp_dWs {a : Addr} {us : List V} {ws : List (List Int)} (h : SqL K H a us) (p : Paired (RowT K H) us ws) : Dp K H (.ref a) (dWs ws) := .lst h (dpAll_map (g := dT) (fun _ _ z => dp_dT z) p)
end
/-! ### == and != by an own __eq__, of anything -/
section
variable {prog : Program} {w : World} {A : Around} {E : Value → Shared → Prop}
/-- the type of a value, looked at -/
theorem looksT {X : Cx} {pins : List (Addr × Obj)} {σ : L2.St} {H : Hp} {s : Shared} {x : V} {u t : Value} (I : Inv X pins σ H s) (rx : RelV x u) (ty : TyX X.K H x t) : PySem.W.Looks (model X.prog X.w) s.heap (typeOf u) t := by
  have one : ∀ (a : Addr) (o : Obj), s.heap.get? a = some o → o.cls = t → PySem.W.Looks (model X.prog X.w) s.heap (typeOf (.ref a)) t := fun a o ho hc A Q E s' k q => wpAny_typeOf_ref (k _ _ ho) (by rw [hc]; exact q)
  cases ty with
  | base b =>
    cases b with
    | non => cases (show u = Value.none from rx); exact fun A Q E s' k q => wpAny_pure q
    | bl y => cases (show u = Value.bool y from rx); exact fun A Q E s' k q => wpAny_pure q
    | int i => obtain ⟨t, q⟩ := (show ∃ t, u = Value.int i t from rx); cases q; exact fun A Q E s' k q => wpAny_pure q
    | str y => obtain ⟨t, q⟩ := (show ∃ t, u = Value.str y t from rx); cases q; exact fun A Q E s' k q => wpAny_pure q
    | flt y => obtain ⟨t, q⟩ := (show ∃ t, u = Value.float y t from rx); cases q; exact fun A Q E s' k q => wpAny_pure q
    | @lst a xs ea =>
      cases (show u = Value.ref a from rx)
      obtain ⟨_, _, n, _, h1⟩ := (show ObjOk X.prog X.w H s.heap a (.lst xs) from I.hok a _ ea)
      exact one _ _ h1 rfl
    | @frz a ob xs ea =>
      cases (show u = Value.ref a from rx)
      obtain ⟨_, _, _, n, _, h1⟩ := (show ObjOk X.prog X.w H s.heap a (.frz ob (.lst xs)) from I.hok a _ ea)
      exact one _ _ h1 rfl
    | @tup a xs ea =>
      cases (show u = Value.ref a from rx)
      obtain ⟨_, _, _, o, h1, h2, _⟩ := (show ObjOk X.prog X.w H s.heap a (.tup xs) from I.hok a _ ea)
      exact one _ _ h1 h2
    | @dK a kvs ea =>
      cases (show u = Value.ref a from rx)
      obtain ⟨_, _, vs, _, o, es, ep, h1, h2, _⟩ := (show ObjOk X.prog X.w H s.heap a (.dK kvs) from I.hok a _ ea)
      exact one _ _ h1 h2.1
    | @dT a kvs ea =>
      cases (show u = Value.ref a from rx)
      obtain ⟨_, _, xs, _, o, es, ep, h1, h2, _⟩ := (show ObjOk X.prog X.w H s.heap a (.dT kvs) from I.hok a _ ea)
      exact one _ _ h1 h2.1
    | @ins a C dx fs ea cl ha hn htk hm =>
      cases (show u = Value.ref a from rx)
      obtain ⟨mA, O, _⟩ := ins_get I.hok ea
      obtain ⟨od, J, _⟩ := O.look
      exact J.type
  | byt y => obtain ⟨t, q⟩ := (show ∃ t, u = Value.bytes y t from rx); cases q; exact fun A Q E s' k q => wpAny_pure q
  | @set a S n ea =>
    cases (show u = Value.ref a from rx)
    obtain ⟨o, _, _, _, e, ex, _⟩ := I.hok a _ ea
    exact one _ _ e ex.1
  | @kList a o e c =>
    cases (show u = Value.ref a from rx)
    exact one _ _ (I.kIn a o e) c
  | @kTuple a o e c =>
    cases (show u = Value.ref a from rx)
    exact one _ _ (I.kIn a o e) c
  | @kDict a o e c =>
    cases (show u = Value.ref a from rx)
    exact one _ _ (I.kIn a o e) c
  | @fTuple a ob xs ea =>
    cases (show u = Value.ref a from rx)
    obtain ⟨_, _, _, _, o, h1, h2, _⟩ := (show ObjOk X.prog X.w H s.heap a (.frz ob (.tup xs)) from I.hok a _ ea)
    exact one _ _ h1 h2
  | @fDict a ob kvs ea =>
    cases (show u = Value.ref a from rx)
    obtain ⟨_, _, _, vs, _, o, es, ep, h1, h2, _⟩ := (show ObjOk X.prog X.w H s.heap a (.frz ob (.dK kvs)) from I.hok a _ ea)
    exact one _ _ h1 h2.1
end
/-- x == y, x an instance of the class at C with an own __eq__ whose promise is sp; y of a type that has no say -/
def rOwnEq (K : PySem.W.Frag) (C : Addr) (sp : Sp) (neg : Bool) : R2 := fun x y H Q => ∃ a dx fs t, x = .ref a ∧ H a = some (.ins C dx fs) ∧ TyX K H y t ∧ PySem.W.notFirst K C t = true ∧
  sp [x, y] H (fun v H' => ∃ b, v = .bl b ∧ Q (.bl (if neg then !b else b)) H') E0
section
variable {X : Cx} {n : Nat} {C f : Addr} {fd : FuncData} {ps : List Str} {sp : Sp}
theorem op_eqOwn (F : FnOk X.prog X.w X.K X.mg X.base CX0 n f fd ps sp) (hr : Room n X.A) (hs : PySem.W.findIn X.K (.ref C) "__eq__" = some (some (.ref f))) (hf : PySem.W.isFn X.K (.ref f) = true) (hb : Binds X.K fd ps []) :
    OpR X (compareOp .Eq) (rOwnEq X.K C sp false) := by
  intro pins s σ H x y v u Q I rx ry hq
  obtain ⟨a, dx, fs, t, rfl, ha, ty, hn, hsp⟩ := hq
  cases rx
  obtain ⟨mA, J, _⟩ := ins_get I.hok ha
  obtain ⟨od, J, _⟩ := J.look
  obtain ⟨m, hF⟩ := I.fr
  show wpAny (model X.prog X.w) X.A (richCompare .Eq (.ref a) u) (EP X pins σ Q) X.xe s
  refine PySem.W.cmp_K (op := .Eq) (tb := t) hr.units0 hF I.ok.mod.kin J (looksT I ry ty) hn hs hf ?_
  refine wpAny_mono (run_fn (vs := [V.ref a, y]) (us := [Value.ref a, u]) F hr hb .nil pass0 I (.cons rfl (.cons ry .nil)) hsp) (fun r s' hq => ?_) fun _ _ h => h
  obtain ⟨z, H', I', rz, b, ez, q⟩ := hq
  subst ez
  cases rz
  exact ⟨.bl b, H', I', rfl, q⟩
end
end Ew
namespace Ew
open PySem PySem.Spec PyProof.Rows L2
/-! ### x != y, x an instance of a class that has an __eq__ and no __ne__; len(x) by an own __len__ -/
theorem on_bind (self : Value) : bindSpecial (.builtin "object.__ne__") self = pure (.builtin "object.__ne__", [self]) :=
  (Slot.of (T := "object") (name := "__ne__") (owner := "object") (n := "__ne__") (by rw [typeLookup_type, builtinLookup_eq_fast]; kernel_rfl) (by decide +kernel) (by decide +kernel) (by decide +kernel)
    (.inl (by decide +kernel)) (by rw [isSubtype_type]; kernel_rfl)).bind self
/-- what the written part says of a class over object -/
def OverObject (K : PySem.W.Frag) (C : Addr) : Prop := ∃ nm q N bs bm sn sub ab col dd k0 k1 k2 k3 k5 hd nid, K.lookup C = some (excClassObj nm q C N bs bm hd sn sub ab col dd k0 k1 k2 k3 k5 nid) ∧ bm.contains (.type "object") = true
section
variable {prog : Program} {w : World} {A : Around} {E : Value → Shared → Prop} {s : Shared} {K : PySem.W.Frag} {x C L f : Addr} {h₀ : Heap} {m : Str → Option Value} {ox : Obj} {od : Option Obj} {b tb : Value}
open PySem.W PySem.Calls Builtin in
theorem objNe_K (hu : A.units < cLine) (X : K.In s.heap) (I : InstAt s.heap x ox C od) (hs : findIn K (.ref C) "__eq__" = some (some (.ref f))) (hf : isFn K (.ref f) = true) {Q : PySem.Fin → Shared → Prop}
    (hcall : wpAny (model prog w) A (call (.ref f) [.ref x, b]) (fun v s' => ∃ c, v = .bool c ∧ Q (.done (.ret (.bool (!c)))) s') E s) :
    wpAny (model prog w) A (Builtin.«object.__ne__» ⟨[.ref x, b], []⟩) Q E s := by
  unfold Builtin.«object.__ne__»
  repeat (first
    | with_reducible refine wpAny_cRoomFor hu ?_
    | (refine wpAny_bind (m := callSpecialIfBound? (.ref x) (Str.ofString "__eq__") [b])
        (ifBound_K X I hs hf (wpAny_mono hcall (fun r s' hr => by
          obtain ⟨c, rfl, hq⟩ := hr
          repeat (first | exact hq | exact wpAny_pure hq | exact wpAny_truthy_bool hq | (refine wpAny_bind (m := truthy (.bool _)) (wpAny_truthy_bool ?_)) | wp_step)) fun _ _ e => e)))
    | wp_step)
open PySem.W PySem.Calls Builtin in
theorem ifBound_B {M : Model} {name : Str} {id : String} {args : List Value} {Q : Option Value → Shared → Prop} (X : K.In s.heap) (I : InstAt s.heap x ox C od) (hs : findIn K (.ref C) name = some (some (.builtin id))) (hbind : ∀ self, bindSpecial (.builtin id) self = pure (.builtin id, [self]))
    (h : wpAny M A (call (.builtin id) (.ref x :: args)) (fun v => Q (some v)) E s) : wpAny M A (callSpecialIfBound? (.ref x) name args) Q E s := by
  simp only [callSpecialIfBound?, bindSpecialIfBound?, hbind]
  refine wpAny_holding (wpAny_bind (wpAny_bind (wpAny_bind (I.type.here ((looks_findIn X hs).here ?_)))))
  refine wpAny_bind (wpAny_askSetting (wpAny_ite ?_))
  have fin : wpAny M A (call (.builtin id) ([.ref x] ++ args) >>= fun v => pure (some v)) Q E s := wpAny_bind (wpAny_mono h (fun v s' h' => wpAny_pure h') fun _ _ h' => h')
  split
  · simp only [hbind]
    exact wpAny_bind (wpAny_pure (wpAny_pure (by exact fin)))
  · simp only [hbind]
    exact wpAny_tryCatch (wpAny_bind (wpAny_pure (wpAny_pure (by exact fin))))
open PySem.W PySem.Calls Builtin in
theorem ne_K' {Q : Value → Shared → Prop} (hu : A.units + 1 < cLine) (F : Fr h₀ L s.heap m) (X₀ : K.In h₀) (I : InstAt s.heap x ox C od) (hox : s.heap.get? x = some ox) (hoc : ox.cls = .ref C) (ho : OverObject K C) (hb : Looks (model prog w) s.heap (typeOf b) tb) (hn : notFirst K C tb = true)
    (hne : findIn K (.ref C) "__ne__" = some (some (.builtin "object.__ne__"))) (hs : findIn K (.ref C) "__eq__" = some (some (.ref f))) (hf : isFn K (.ref f) = true)
    (h : wpAny (model prog w) A.in1 (call (.ref f) [.ref x, b]) (fun v s' => ∃ c, v = .bool c ∧ Q (.bool (!c)) s') E s) : wpAny (model prog w) A (richCompare .NotEq (.ref x) b) Q E s := by
  have X := X₀.keeps F.keep
  obtain ⟨nm, q, N, bs, bm, sn, sub, ab, col, dd, k0, k1, k2, k3, k5, hd, nid, hC, hbm⟩ := ho
  have one : wpAny (model prog w) A (tryCompare (.ref x) "__ne__" b) (fun r s' => ∃ v, r = some v ∧ Q v s') E s := by
    unfold tryCompare
    refine wpAny_bind (ifBound_B X I hne on_bind ?_)
    obtain ⟨hp, g, d, t, os⟩ := s
    refine wpAny_call (codeAny_call_builtin (by decide +kernel) PySem.F.cmpEntry_ne (wpAny_check_slot_inst PySem.F.cmpKind_ne PySem.F.cmpSplit_ne (PySem.F.cmpArgs_ne _ _) hbm hox hoc (X _ _ hC)
        (objNe_K (A := A.in1) hu X I hs hf (wpAny_mono h (fun v s' hv => ?_) fun _ _ e => e))))
    obtain ⟨c, rfl, hq⟩ := hv
    first | exact ⟨c, rfl, wpAny_pure ⟨_, rfl, hq⟩⟩ | exact ⟨c, rfl, wpAny_pure (wpAny_pure ⟨_, rfl, hq⟩)⟩
  unfold richCompare
  simp only [oneThing_ref]
  refine wpAny_holding (wpAny_bind (wpAny_cRoomFor (Nat.lt_of_succ_lt hu) ?_))
  refine wpAny_bind (I.type.here (wpAny_bind (hb.here ?_)))
  split
  · rename_i q
    have e : subIn K tb (.ref C) = some false := by
      rcases Bool.or_eq_true_iff.mp hn with e | e
      · rw [beq_iff_eq.mp e] at q; simp at q
      · exact beq_iff_eq.mp e
    refine wpAny_bind ((looks_subIn X e).here ?_)
    simp only [Bool.false_eq_true, if_false]
    refine wpAny_bind (wpAny_mono one (fun r s' z => ?_) fun _ _ e => e)
    obtain ⟨v, rfl, hq⟩ := z
    exact wpAny_pure hq
  · refine wpAny_bind (wpAny_pure ?_)
    simp only [Bool.false_eq_true, if_false]
    refine wpAny_bind (wpAny_mono one (fun r s' z => ?_) fun _ _ e => e)
    obtain ⟨v, rfl, hq⟩ := z
    exact wpAny_pure hq
end
section
variable {X : Cx} {n : Nat} {C f : Addr} {fd : FuncData} {ps : List Str} {sp : Sp}
/-- the callee runs below a builtin -/
theorem run_in1 {pins : List (Addr × Obj)} {σ : L2.St} {H : Hp} {s : Shared} {Q : VK} {us : List Value} {vs : List V} (F : FnOk X.prog X.w X.K X.mg X.base CX0 n f fd ps sp) (hr : Room (n + 1) X.A) (hb : Binds X.K fd ps [])
    (I : Inv X pins σ H s) (r : Vals vs us) (h : sp vs H Q E0) : wpAny (model X.prog X.w) X.A.in1 (call (.ref f) us) (EP X pins σ Q) X.xe s := by
  have hl : us.length = ps.length := by rw [← r.length]; exact F.len _ _ _ _ h
  refine wpAny_call (codeAny_mono (F.run X.A.in1 X.stack s H ⟨us, []⟩ us vs Q E0 hr.in1 I.env0.in1 (by
    have := hb s us I.kIn (by simpa using hl)
    simpa using this) r h) fun r s' hq => ?_)
  cases r with
  | error e => exact False.elim hq
  | ok fl =>
    cases fl with
    | ret u => exact I.after hq
    | next => exact False.elim hq
    | brk => exact False.elim hq
    | cont => exact False.elim hq
theorem op_neOwn (F : FnOk X.prog X.w X.K X.mg X.base CX0 n f fd ps sp) (hr : Room (n + 1) X.A) (hs : PySem.W.findIn X.K (.ref C) "__eq__" = some (some (.ref f))) (hf : PySem.W.isFn X.K (.ref f) = true) (hb : Binds X.K fd ps [])
    (ho : OverObject X.K C) (hne : PySem.W.findIn X.K (.ref C) "__ne__" = some (some (.builtin "object.__ne__"))) : OpR X (compareOp .NotEq) (rOwnEq X.K C sp true) := by
  intro pins s σ H x y v u Q I rx ry hq
  obtain ⟨a, dx, fs, t, rfl, ha, ty, hn, hsp⟩ := hq
  cases rx
  obtain ⟨mA, J, _⟩ := ins_get I.hok ha
  obtain ⟨od, J, _⟩ := J.look
  obtain ⟨m, hF⟩ := I.fr
  obtain ⟨_, _, _, hget, _⟩ := (show ObjOk X.prog X.w H s.heap a (.ins C dx fs) from I.hok a _ ha)
  have hu := hr.units
  show wpAny (model X.prog X.w) X.A (richCompare .NotEq (.ref a) u) (EP X pins σ Q) X.xe s
  refine ne_K' (tb := t) (by omega) hF I.ok.mod.kin J hget rfl ho (looksT I ry ty) hn hne hs hf ?_
  refine wpAny_mono (run_in1 (vs := [V.ref a, y]) (us := [Value.ref a, u]) F hr hb I (.cons rfl (.cons ry .nil)) hsp) (fun r s' hq => ?_) fun _ _ h => h
  obtain ⟨z, H', I', rz, b, ez, q⟩ := hq
  subst ez
  cases rz
  exact ⟨b, rfl, .bl (!b), H', I', rfl, q⟩
/-- len(x), x an instance of the class at C with an own __len__ -/
theorem call_lenOwn (F : FnOk X.prog X.w X.K X.mg X.base CX0 n f fd ps sp) (hr : Room (n + 1) X.A) (hs : PySem.W.findIn X.K (.ref C) "__len__" = some (some (.ref f))) (hf : PySem.W.isFn X.K (.ref f) = true) (hb : Binds X.K fd ps []) :
    CallR X (.builtin "len") (fun xs H Q => ∃ a dx fs, xs = [.ref a] ∧ H a = some (.ins C dx fs) ∧ sp [.ref a] H (fun v H' => ∃ k : Int, v = .int k ∧ (0 ≤ k ∧ k < 2 ^ 63) ∧ Q (.int k) H') E0) := by
  intro pins s σ H xs us Q I r hq
  obtain ⟨a, dx, fs, rfl, ha, hsp⟩ := hq
  cases r with
  | cons r1 r2 =>
    cases r2
    cases r1
    obtain ⟨mA, J, _⟩ := ins_get I.hok ha
    obtain ⟨od, J, _⟩ := J.look
    obtain ⟨m, hF⟩ := I.fr
    refine PySem.W.len_K hF I.ok.mod.kin J hs hf ?_
    refine wpAny_mono (run_in1 (vs := [V.ref a]) (us := [Value.ref a]) F hr hb I (.cons rfl .nil) hsp) (fun r s' hq => ?_) fun _ _ h => h
    obtain ⟨z, H', I', rz, k, ez, hk, q⟩ := hq
    subst ez
    obtain ⟨t, rfl⟩ := rz
    exact ⟨hk, .int k, H', I'.tok _, ⟨_, rfl⟩, q⟩
end
end Ew
namespace Ew
open PySem PySem.Spec PyProof.Rows L2
section
variable {X : Cx}
theorem cut_all {xs : List V} {lo hi : Option Int} (h : HT.sIx xs.length 0 lo = 0 ∧ HT.sIx xs.length xs.length hi = xs.length) : cutV xs lo hi = xs := by
  unfold cutV
  rw [h.1, h.2, List.drop_zero, Nat.sub_zero, List.take_length]
/-- t[lo:hi], the whole too -/
def rSl1 (K : PySem.W.Frag) : V → Option Int → Option Int → Hp → VK → Prop := fun x lo hi H Q => ∃ a xs, x = .ref a ∧ SqT K H a xs ∧ ∀ p H', Same H H' → SqT K H' p (cutV xs lo hi) → Q (.ref p) H'
theorem sl_tup1 : SlR X (rSl1 X.K) := by
  intro pins s σ H x v vl vu lo hi sl Q I rx hs pl pu h
  obtain ⟨a, xs, rfl, hx, q⟩ := h
  exact sl_tupA pins s σ H _ v vl vu lo hi sl Q I rx hs pl pu ⟨a, xs, rfl, hx, fun hw => q a H (Same.refl H) (by rw [cut_all hw]; exact hx), fun _ p np => q p _ (sameU np) (.inl (.inl upd_same))⟩
end
theorem cut_from (xs : List V) (k : Nat) : cutV xs (some (k : Int)) none = xs.drop k := by
  unfold cutV
  rw [HT.sIx_nat, HT.sIx_none]
  rcases Nat.le_total k xs.length with h | h
  · rw [Nat.min_eq_left h, List.take_of_length_le (by rw [List.length_drop]; omega)]
  · rw [Nat.min_eq_right h, List.drop_of_length_le h, Nat.sub_self]
    simp
theorem cut_to (xs : List V) (k : Nat) : cutV xs none (some (k : Int)) = xs.take k := by
  unfold cutV
  rw [HT.sIx_nat, HT.sIx_none, List.drop_zero, Nat.sub_zero]
  rcases Nat.le_total k xs.length with h | h
  · rw [Nat.min_eq_left h]
  · rw [Nat.min_eq_right h, List.take_of_length_le h, List.take_length]
theorem Paired.drop {α β : Type} {R : α → β → Prop} : ∀ {xs : List α} {ys : List β} (n : Nat), Paired R xs ys → Paired R (xs.drop n) (ys.drop n)
  | _, _, 0, h => h
  | _, _, _ + 1, .nil => .nil
  | _, _, n + 1, .cons _ t => Paired.drop n t
theorem Paired.app {α β : Type} {R : α → β → Prop} : ∀ {xs : List α} {ys : List β} {us : List α} {ws : List β}, Paired R xs ys → Paired R us ws → Paired R (xs ++ us) (ys ++ ws)
  | _, _, _, _, .nil, h => h
  | _, _, _, _, .cons r t, h => .cons r (Paired.app t h)
theorem Paired.rev {α β : Type} {R : α → β → Prop} : ∀ {xs : List α} {ys : List β}, Paired R xs ys → Paired R xs.reverse ys.reverse
  | _, _, .nil => .nil
  | x :: xs, y :: ys, .cons r t => by
    rw [List.reverse_cons, List.reverse_cons]
    exact Paired.app (Paired.rev t) (.cons r .nil)
end Ew
namespace Ew
open PySem PySem.Spec PyProof.Rows L2
/-! ### repr of data, where no repr is under way -/
mutual
theorem dp_noDict {K : PySem.W.Frag} {H : Hp} : ∀ (d : PyData) (v : V), Dp K H v d → d.hasDict = false
  | .none, _, _ => rfl
  | .bool _, _, _ => rfl
  | .int _, _, _ => rfl
  | .str _, _, _ => rfl
  | .list ds, _, h => by
    cases h with
    | lst _ ha => exact dpAll_noDict ds _ ha
  | .tuple ds, _, h => by
    cases h with
    | tup _ ha => exact dpAll_noDict ds _ ha
  | .dict _, _, h => by cases h
theorem dpAll_noDict {K : PySem.W.Frag} {H : Hp} : ∀ (ds : List PyData) (vs : List V), DpAll K H vs ds → PyData.hasDictAll ds = false
  | [], _, _ => rfl
  | d :: ds, _, h => by
    cases h with
    | cons h1 h2 =>
      show (PyData.hasDict d || PyData.hasDictAll ds) = false
      rw [dp_noDict d _ h1, dpAll_noDict ds _ h2]
      rfl
end
def rRepr (K : PySem.W.Frag) : List V → Hp → VK → Prop := fun xs H Q => ∃ v d, xs = [v] ∧ Dp K H v d ∧ d.showable = true ∧ d.depth ≤ 60 ∧ d.shown.length ≤ sizeLine ∧ Q (.str d.shown) H
section
variable {X : Cx}
theorem call_repr (hg : X.A.guards = some []) (hu : X.A.units + 64 < cLine) : CallR X (.builtin "repr") (rRepr X.K) := by
  intro pins s σ H xs us Q I r h
  obtain ⟨v, d, rfl, hd, hs, hdep, hsz, q⟩ := h
  cases r with
  | cons r1 r2 =>
    cases r2
    rename_i u
    obtain ⟨as, rd⟩ := Dp.reads I d v u hd r1
    have nod := dp_noDict d v hd
    cases hd with
    | non => cases (show u = Value.none from r1); exact PySem.P.repr_of_none ⟨.str _, H, I.tok _, ⟨_, rfl⟩, q⟩
    | bl b => cases (show u = Value.bool b from r1); exact PySem.P.repr_of_bool ⟨.str _, H, I.tok _, ⟨_, rfl⟩, q⟩
    | int i => obtain ⟨t, e⟩ := (show ∃ t, u = Value.int i t from r1); cases e; exact PySem.P.repr_of_int (of_decide_eq_true hs) ⟨.str _, H, I.tok _, ⟨_, rfl⟩, q⟩
    | str y => obtain ⟨t, e⟩ := (show ∃ t, u = Value.str y t from r1); cases e; exact PySem.P.repr_of_str (hsz := hsz) ⟨.str _, H, I.tok _, ⟨_, rfl⟩, q⟩
    | @lst a xs ds h1 h2 =>
      cases (show u = Value.ref a from r1)
      exact repr_of_reads' rd hs (fun e => by rw [nod] at e; cases e) hg (by omega) (fun _ _ e => e) (fun h' u tk hk => ⟨.str _, H, I.kept (t' := tk) hk, ⟨_, rfl⟩, q⟩) hsz
    | @tup a xs ds h1 h2 =>
      cases (show u = Value.ref a from r1)
      exact repr_of_reads' rd hs (fun e => by rw [nod] at e; cases e) hg (by omega) (fun _ _ e => e) (fun h' u tk hk => ⟨.str _, H, I.kept (t' := tk) hk, ⟨_, rfl⟩, q⟩) hsz
end
/-! ### a def that is called where no repr is under way -/
structure FnOkG (P : Program) (w : World) (K : PySem.W.Frag) (mg : Str → Option Value) (base : Heap) (k : Nat) (f : Addr) (fd : FuncData) (ps : List Str) (sp : Sp) : Prop where
  len : ∀ vs H Q E, sp vs H Q E → vs.length = ps.length
  run : ∀ (A : Around) (outer : List Env) (s : Shared) (H : Hp) (args : Args) (us : List Value) (vs : List V) (Q : VK) (E : XK), A.guards = some [] → Room k A → Env0 P w K mg base A outer s H → BindsTo s fd args (ps.zip us) → Vals vs us → sp vs H Q E →
    codeAny (model P w) A (.call (.ref f) args) (CR CX0 outer P w H s Q E) s
section
variable {P : Program} {w : World} {K : PySem.W.Frag} {mg : Str → Option Value} {base : Heap}
theorem okG {x qual : Str} {st : Stmt} {f : Addr} {fd : FuncData} {N ps : List Str} {k : Nat} {sp : Sp} (F : Fun K x qual st f fd) (S : FnScope N ps (defScope st)) (len : ∀ vs H Q E, sp vs H Q E → vs.length = ps.length)
    (hbody : ∀ (cdv : Value) (A : Around) (outer : List Env) (s : Shared) (H : Hp) (vs : List V) (Q : VK) (E : XK), A.guards = some [] → Room k (A.deeper (envOfC qual (defScope st) s.heap.objs.size f cdv)) → sp vs H Q E →
      ∃ t, PSs (cxOf CX0 P w K mg base N qual (defScope st) f cdv A outer s H E).nox (defBody st) t ∧ t { nx := fun _ H' => Q .non H', rt := Q } (L2.start N vs) H) : FnOkG P w K mg base (k + 1) f fd ps sp := by
  obtain ⟨oc, od, kV, doc, pm, an, cdv, ct, osl, rfl, lk, hcd⟩ := F.ex
  refine ⟨len, fun A outer s H args us vs Q E hgd hr e0 hb r hsp => ?_⟩
  have sub : ∀ b o, base.get? b = some o → s.heap.get? b = some o := fun b o e => (e0.bs b o e).1
  have inK : K.In s.heap := e0.mod.kin.keeps sub
  have lim : s.heap.NoLimit := e0.mod.nolimit.keeps sub
  have hkind : ∀ y ∈ ps.zip us, (defScope st).names.lookup y.1 = some .local ∨ ((defScope st).names.lookup y.1 = some .cell ∧ ((cellsFrom (s.heap.objs.size + 1) (defScope st).names []).lookup y.1).isSome = true) := by
    rintro ⟨n, v⟩ hy
    exact (S.par n (List.of_mem_zip hy).1).elim .inl fun z => .inr ⟨z, PySem.W.cellsFrom_some _ _ _ (.inl z)⟩
  refine codeAny_call_function hr.depth (inK _ _ lk) rfl S.co S.gen rfl (PySem.W.codeRec_of inK hcd) (hb _ _ _ _ (wpAny_newFunctionEnv_cells S.kind hkind fun env he s1 hs1 => ?_))
  subst he
  obtain ⟨t, ht, hq⟩ := hbody cdv A outer s H vs Q E hgd (hr.deeper _) hsp
  have I := inv_start (CX := CX0) (P := P) (w := w) (f := f) (cd := cdv) (E := E) (qual := qual) S hr.hd e0 (len _ _ _ _ hsp) r hs1
  refine ⟨lim.keeps hs1.toInCall.keep, codeAny_func (wpAny_mono (ht.nox.run [] s1 (L2.start N vs) H _ I hq) (fun fl s' hs => ?_) fun e s' hs => hs)⟩
  cases fl with
  | ret u => obtain ⟨v, σ', H', J, rv, q⟩ := hs; exact ⟨v, H', J.os, J.bare, J.base, J.hok, rv, q⟩
  | next => obtain ⟨σ', H', J, q⟩ := hs; exact ⟨.non, H', J.os, J.bare, J.base, J.hok, rfl, q⟩
  | brk => obtain ⟨_, _, _, q⟩ := hs; exact q.elim
  | cont => obtain ⟨_, _, _, q⟩ := hs; exact q.elim
end
section
variable {X : Cx} {k : Nat} {f : Addr} {fd : FuncData} {ps : List Str} {sp : Sp} {x : Str} {p pos : Pos} {e : Expr} {es : List Expr} {t : TA}
/-- f(e, ..), f such a def -/
theorem pe_callG (F : FnOkG X.prog X.w X.K X.mg X.base k f fd ps sp) (hgd : X.A.guards = some []) (hr : Room k X.A) (hg : Gl X x) (hm : X.mg x = some (.ref f)) (hk : PySem.W.keepIn X.K (.ref f) = true) (hb : Binds X.K fd ps [])
    (ha : PA X (e :: es) t) (hdb : (x == ("__debug__" : Str)) = false := by decide) (he : starEach (e :: es) X.env = (false, eval e X.env) :: starEach es X.env := by rfl) (hpl : (backTo pos (starEach es X.env)).any (·.1) = false := by rfl) :
    PE X (.Call (.Name x p) (e :: es) [] pos) (tCall sp [] E0 t) := by
  refine ⟨fun pins s σ H Q I h => wpAny_Call_Name_kw (ld_glob I hg hm ?_ hdb)⟩
  refine PySem.W.callWith_K (h₀ := X.base) I.ok.mod.kin hk (thn (ha.run pos pins s σ H _ I h) fun us s1 ⟨vs, H1, I1, r, q⟩ => ⟨I1.kIn, ?_⟩) he hpl
  have q2 : sp (vs ++ []) H1 Q E0 := q
  rw [List.append_nil] at q2
  have hl : us.length = ps.length := by rw [← r.length]; exact F.len _ _ _ _ q2
  refine wpAny_call (codeAny_mono (F.run X.A X.stack s1 H1 ⟨us, []⟩ us vs Q E0 hgd hr I1.env0 (by simpa using hb s1 us I1.kIn (by simpa using hl)) r q2) fun r s' hq => ?_)
  cases r with
  | error _ => exact False.elim hq
  | ok fl =>
    cases fl with
    | ret u => exact I1.after hq
    | next => exact False.elim hq
    | brk => exact False.elim hq
    | cont => exact False.elim hq
end
/-- what is tracked ahead of the law's call: the script alone -/
def only (a : Addr) (o : Obj) (xs : List V) : Hp := fun b => if b = a then some (.frz o (.lst xs)) else none
theorem only_ne {a b : Addr} {o : Obj} {xs : List V} (h : b ≠ a) : only a o xs b = none := if_neg h
theorem only_at {a : Addr} {o : Obj} {xs : List V} : only a o xs a = some (.frz o (.lst xs)) := if_pos rfl
theorem only_is {a b : Addr} {o : Obj} {xs : List V} {u : HO} (h : only a o xs b = some u) : b = a ∧ u = .frz o (.lst xs) := by
  by_cases e : b = a
  · subst e
    rw [only_at] at h
    exact ⟨rfl, (Option.some.inj h).symm⟩
  · rw [only_ne e] at h
    cases h
section
variable {P : Program} {w : World} {K : PySem.W.Frag} {mg mb : Str → Option Value} {k : Nat} {fa a : Addr} {fd : FuncData} {x : Str} {sp : Sp} {s₁ : Shared} {vs : List Value} {ns : List Int}
/-- the law's call from an abstract heap that tracks at most the script -/
theorem call_from {H : Hp} (KX : K.In s₁.heap) (hns : s₁.heap.Ns mainGlobals mg) (hb : s₁.heap.Ns builtinsNs mb) (hbb : ∀ x : Str, x ≠ "__name__" → mb x = bootBuiltins x) (hlim : s₁.heap.NoLimit) (hg : s₁.gens = #[])
    (hr : Room k callerA) (F : ∀ base : Heap, K.In base → base.Ns mainGlobals mg → FnOkG P w K mg base k fa fd [x] sp) (hbind : ∀ (s : Shared) (u : Value), BindsTo s fd ⟨[u], []⟩ [(x, u)])
    (hsp : sp [.ref a] H (fun v _ => v = .bl true) fun _ _ _ => False) (hok : HOk P w H s₁.heap) (dicts : ∀ b o es ep, s₁.heap.get? b = some o → o.data = .dict es ep → H b = none) (kept : ∀ b o, K.lookup b = some o → H b = none)
    (frz : ∀ b u, H b = some u → ∃ o xs, u = .frz o (.lst xs)) :
    codeAny (model P w) callerA (.call (.ref fa) ⟨[.ref a], []⟩) (fun r s' => r = .ok (.ret (.bool true)) ∧ OldK s₁.heap s'.heap ∧ s'.os = s₁.os ∧ AllBare s'.gens) s₁ := by
  have nsB : ∀ {b : Addr} {m : Str → Option Value}, s₁.heap.Ns b m → (hidT s₁.heap H).Ns b m := by
    rintro b m ⟨o, es, ep, e, d, r⟩
    exact ⟨o, es, ep, hidT_get e (dicts _ _ _ _ e d), d, r⟩
  have inB : K.In (hidT s₁.heap H) := fun b o e => hidT_get (KX b o e) (kept b o e)
  have hM : Mod K mg (hidT s₁.heap H) := ⟨inB, nsB hns, ⟨mb, nsB hb, hbb⟩, let ⟨mc, h1, h2⟩ := hlim; ⟨mc, nsB h1, h2⟩⟩
  have noFr : ∀ b ∈ frs ([] : List Env), H b = none := fun b z => absurd (show b ∈ ([] : List Addr) from z) (by simp)
  have e0 : Env0 P w K mg (hidT s₁.heap H) callerA [] s₁ H := ⟨rfl, hM, fun b o e => of_hidT e, Nat.le_of_eq (hidT_size _ _), trivial, noFr, hok, .of_eq hg⟩
  refine codeAny_mono ((F _ inB (nsB hns)).run callerA [] s₁ H ⟨[.ref a], []⟩ [.ref a] [.ref a] _ _ rfl hr e0 (hbind s₁ (.ref a)) (.cons rfl .nil) hsp) fun r s' h => ?_
  cases r with
  | error e => exact False.elim h
  | ok fl =>
    cases fl with
    | next => exact False.elim h
    | brk => exact False.elim h
    | cont => exact False.elim h
    | ret u =>
      obtain ⟨v, H', os, bare, un, hok', r', q⟩ := h
      obtain rfl : v = .bl true := q
      obtain rfl : u = Value.bool true := r'
      refine ⟨rfl, OldK.of_keep fun b o e => ?_, os, bare⟩
      cases hb2 : H b with
      | none => exact un.keep b o e hb2 (fun z => absurd (show b ∈ ([] : List Addr) from z) (by simp)) (by simp)
      | some u =>
        obtain ⟨ob, xs, rfl⟩ := frz b u hb2
        obtain ⟨e1, _⟩ := hok b _ hb2
        obtain ⟨e2, _⟩ := hok' b _ (un.frzs b ob _ hb2)
        exact e2.trans (e1.symm.trans e)
end
/-- the end of a law whose def asks that no repr is under way -/
theorem walk_ofG {l : PySem.W.OpenLaw} {n k : Nat} {q : Program} {loose : List Str} {XP : (Str → Option Value) → Heap → Prop} {YP : World → Heap → Prop} {d : DefRec} {K : Params → PySem.W.Frag} {sp : World → Sp} {x : Str}
    (hn : l.most = some n) (hn2 : n ≤ sizeLine) (hdf : d.params.defaults = []) (hr : Room k callerA)
    (hY : ∀ (w : World) (h : Heap), YP w h → (K w.params).In h)
    (F : ∀ (w : World) (mg : Str → Option Value) (fa : Addr) (h : Heap), (K w.params).In h → h.Ns mainGlobals mg → mg d.name = some (.ref fa) →
      ∃ fd : FuncData, (∀ (s : Shared) (u : Value), BindsTo s fd ⟨[u], []⟩ [(x, u)]) ∧
        ∀ base : Heap, (K w.params).In base → base.Ns mainGlobals mg → FnOkG l.prog w (K w.params) mg base k fa fd [x] (sp w))
    (hsp : ∀ (w : World) (H : Hp) (a : Addr) (ns : List Int), ns.length ≤ n → SqL (K w.params) H a (ns.map V.int) → sp w [.ref a] H (fun v _ => v = .bl true) fun _ _ _ => False) :
    PySem.W.WalkO q loose XP YP l.row.toRowW d [] (fun f vs => PySem.call f vs) := by
  refine Att.attach_call hn hdf fun w s₀ s₁ mg mb fa o pm cd doc a vs ns G Y ho hd hcd hmg hobj hints hlen hg => ?_
  have KX := hY w _ Y
  obtain ⟨fd, hb, hF⟩ := F w mg fa _ KX G.T.g hmg
  have rv := vals_ints hints
  have ls : (ns.map V.int).length ≤ sizeLine := by rw [List.length_map]; exact Nat.le_trans hlen hn2
  cases hk : (K w.params).lookup a with
  | some o =>
    -- the script is one of the module's own objects
    have e := KX a o hk
    rw [hobj] at e
    cases e
    have none_ : ∀ b, (fun _ => none : Hp) b = none := fun _ => rfl
    refine call_from (H := fun _ => none) KX G.T.g G.T.b G.T.builtins G.T.nolimit hg hr hF hb (hsp w _ a ns hlen (.inr ⟨_, vs.toArray, _, hk, rfl, rfl, rfl, ?_, by simpa using rv⟩)) (fun b u z => by cases z) (fun _ _ _ _ _ _ => rfl) (fun _ _ _ => rfl) (fun b u z => by cases z)
    rw [List.size_toArray, ← rv.length]
    exact ls
  | none =>
    refine call_from (H := only a { cls := .type "list", data := .seq vs.toArray } (ns.map V.int)) KX G.T.g G.T.b G.T.builtins G.T.nolimit hg hr hF hb (hsp w _ a ns hlen (.inl (.inr ⟨_, only_at⟩))) (fun b u z => ?_) (fun b ob es ep e d => ?_) (fun b ob e => ?_) (fun b u z => ⟨_, _, (only_is z).2⟩)
    · obtain ⟨rfl, rfl⟩ := only_is z
      exact ⟨hobj, ls, vs, _, rv, hobj⟩
    · refine only_ne fun z => ?_
      rw [z, hobj] at e
      cases e
      cases (show Data.seq vs.toArray _ = Data.dict es ep from d)
    · refine only_ne fun z => ?_
      rw [z, hk] at e
      cases e
end Ew
namespace Ew
open PySem PySem.Spec PyProof.Rows L2
/-! ### sorted(t), t a tuple of ints -/
section
variable {prog : Program} {w : World} {A : Around} {E : Value → Shared → Prop} {s : Shared}
/-- the heap behind the collecting of vs -/
abbrev heapC (h : Heap) (vs : List Value) : Heap := (h.push (seqObj "list" #[] 0)).update h.objs.size (Obj.mapSeq (· ++ vs.toArray))
theorem collect_tup {l : Addr} {vs : List Value} {Q : List Value → Shared → Prop} (hl : IsTup s.heap l vs.toArray) (hsz : vs.length ≤ sizeLine) (h : Q vs { s with heap := heapC s.heap vs }) : wpAny (model prog w) A (collect (.ref l)) Q E s := by
  obtain ⟨o, ho, hc, n, hd⟩ := id hl
  have ho' : (s.heap.push (seqObj "list" #[] 0)).get? l = some o := Heap.get?_push_of_some _ ho
  have hn : (s.heap.push (seqObj "list" #[] 0)).get? s.heap.objs.size = some (seqObj "list" #[] 0) := Heap.get?_push_size _ rfl
  unfold collect
  refine wpAny_bind (wpAny_runValue (codeAny_builtin entry_proto_collect' ?_))
  show wpAny _ _ (do again (.builtin "list.__iadd__" ⟨[← newList [], .ref l], []⟩)) _ _ s
  refine wpAny_bind (wpAny_newList (wpAny_pure ⟨Code.quiet_builtin _ (by decide +kernel), codeAny_builtin entry_list_iadd' ?_⟩))
  show wpAny _ _ (Builtin.List.listExtendWith (.ref s.heap.objs.size) (.ref l) (.ref s.heap.objs.size)) _ _ { s with heap := s.heap.push (seqObj "list" #[] 0) }
  unfold Builtin.List.listExtendWith
  refine wpAny_bind (wpAny_typeOf (T := "tuple") ⟨o, ho', hc⟩ ?_)
  rw [if_pos (by rw [show (Value.type "tuple" == Value.type "tuple") = true from rfl, Bool.or_true])]
  refine wpAny_bind (listItems_at ho' hd (wpAny_bind (listItems_at (xs := #[]) (n := 0) hn rfl ?_)))
  rw [if_neg (by simp)]
  refine wpAny_bind (listUpdate_at (xs := #[]) (n := 0) hn rfl (wpAny_pure ?_) (Nat.zero_le _) (by show (#[] ++ vs.toArray).size ≤ sizeLine + 1; simp; omega))
  show wpAny (model prog w) A (do
      let o ← load s.heap.objs.size
      match o.data with
      | .seq xs _ => pure xs.toList
      | _ => unsupported "internal:collect") Q E { s with heap := heapC s.heap vs }
  refine wpAny_bind (wpAny_load (get?_update_seq hn _) ?_)
  show wpAny _ _ (pure ((#[] : Array Value) ++ vs.toArray).toList) Q E _
  have e : ((#[] : Array Value) ++ vs.toArray).toList = vs := by simp
  rw [e]
  exact wpAny_pure h
theorem sorted_tup {l : Addr} {vs : List Value} {ns : List Int} {Q : Value → Shared → Prop} (hl : IsTup s.heap l vs.toArray) (hI : IntsAre vs ns) (h64 : vs.length < 64)
    (h : ∀ (out : Array Value) (ns' : List Int), IntsAre out.toList ns' → ns'.Perm ns → ns'.Pairwise (· ≤ ·) → Q (.ref (s.heap.objs.size + 1)) { s with heap := sortedAll s.heap vs out }) :
    wpAny (model prog w) A (call (.builtin "sorted") [.ref l]) Q E s := by
  have zs : vs.length ≤ sizeLine := Nat.le_trans (Nat.le_of_lt h64) (by decide)
  have hsz : (heapC s.heap vs).objs.size = s.heap.objs.size + 1 := by rw [Heap.size_update, size_push']
  have hoL : ((heapC s.heap vs).push (seqObj "list" vs.toArray 0)).get? (s.heap.objs.size + 1) = some (seqObj "list" vs.toArray 0) := by
    rw [← hsz]
    exact Heap.get?_push_size _ rfl
  refine Calls.call_function_entry kind_sorted plain_sorted entry_sorted (args_sorted1 _) ?_
  unfold Builtin.«sorted»
  refine wpAny_bind (m := checkCount "sorted" 1 1 _) (wpAny_pure (wpAny_bind (collect_tup hl zs (wpAny_bind (wpAny_newList ?_)))))
  show wpAny _ _ _ _ _ { s with heap := (heapC s.heap vs).push (seqObj "list" vs.toArray 0) }
  rw [hsz]
  exact wpAny_bind (wpAny_holding (wpAny_call_entry slot_list_sort ⟨_, hoL, rfl⟩ entry_list_sort (list_sort_tree hoL hI h64 fun out ns' a1 a2 a3 => ⟨_, rfl, wpAny_pure ⟨_, rfl, h out ns' a1 a2 a3⟩⟩) (args_list_sort _)))
end
section
variable {X : Cx}
def rSortedTu (K : PySem.W.Frag) : List V → Hp → VK → Prop := fun vs H Q => ∃ (a : Addr) (ns : List Int), vs = [V.ref a] ∧ SqT K H a (ns.map V.int) ∧ ns.length < 64 ∧ ∀ (ns' : List Int) (p : Addr), ns'.Perm ns → ns'.Pairwise (· ≤ ·) → H p = none → Q (.ref p) (upd H p (.lst (ns'.map V.int)))
theorem cr_sortedTu : CallR X (.builtin "sorted") (rSortedTu X.K) := by
  intro pins s σ H vs us Q I r h
  obtain ⟨a, ns, rfl, hs, h64, q⟩ := h
  obtain ⟨its, rv, hl, _⟩ := I.tuple hs
  rw [Vals.ref1 r]
  have hi := rv.ints
  refine sorted_tup hl hi (by rw [hi.length]; exact h64) fun out ns' h1 h2 h3 => ?_
  obtain ⟨ep, he⟩ := PyProof.Rows.sortedAll_at s.heap its out
  have hz : (ns'.map V.int).length ≤ sizeLine := by rw [List.length_map, h2.length_eq]; exact Nat.le_trans (Nat.le_of_lt h64) (by decide)
  exact ⟨.ref _, upd H (s.heap.objs.size + 1) (.lst (ns'.map V.int)), I.laid (t' := s.toks) (fun _ _ => PyProof.Rows.sortedAll_old) (Nat.le_succ _) ⟨hz, out.toList, ep, vals_of_ints h1, he⟩, rfl, q ns' _ h2 h3 (I.hok.fresh (Nat.le_succ _))⟩
end
end Ew
namespace Ew
open PySem PySem.Spec PyProof.Rows L2
/-! ### the counts -/
def pres (n : Nat) (as : List Int) : List Int := ((List.range n).filter fun i => !decide (((i : Nat) : Int) ∈ as)).map fun i => ((i : Nat) : Int)
/-- by what is read outside of the set -/
def cnt2 (r : Int × List Int) (row works : List Int) : Int :=
  let o : Int := r.1 - ((row.filter fun x => !decide (x ∈ works)).length : Nat)
  let i : Int := ((works.filter fun x => decide (x ∈ r.2)).length : Nat)
  if i < o then i else o
/-- by what is read within, and what more can be -/
def cnt1 (r : Int × List Int) (row works : List Int) : Int :=
  let has := row.filter fun x => decide (x ∈ works)
  let o : Int := r.1 - (row.length : Nat)
  let i : Int := ((r.2.filter fun x => decide (x ∈ works) && !decide (x ∈ has)).length : Nat)
  (has.length : Nat) + (if i < o then i else o)
theorem split_len {α : Type} (p : α → Bool) : ∀ l : List α, l.length = (l.filter p).length + (l.filter fun x => !p x).length
  | [] => rfl
  | x :: l => by
    have ih := split_len p l
    cases h : p x with
    | true => simp [h]; omega
    | false => simp [h]; omega
theorem nodup_same {xs ys : List Int} (hx : xs.Nodup) (hy : ys.Nodup) (h : ∀ z, z ∈ xs ↔ z ∈ ys) : xs.length = ys.length :=
  ((List.perm_ext_iff_of_nodup hx hy).mpr h).length_eq
theorem nodup_asc {l : List Int} (h : l.Pairwise (· < ·)) : l.Nodup := h.imp fun h => by omega
theorem cnt_eq {r : Int × List Int} {row works : List Int} (ho : RowOk r row) (hm : r.2.Pairwise (· < ·)) (hw : works.Pairwise (· < ·)) : cnt1 r row works = cnt2 r row works := by
  have nr := nodup_asc ho.1
  have nm := nodup_asc hm
  have nw := nodup_asc hw
  have e1 := split_len (fun x => decide (x ∈ works)) row
  -- the works of the set that the reader may read: those that it reads, and the others
  have e2 : (works.filter fun x => decide (x ∈ r.2)).length = (r.2.filter fun x => decide (x ∈ works)).length := nodup_same (nw.filter _) (nm.filter _) (fun z => by simp only [List.mem_filter, decide_eq_true_eq]; exact ⟨fun h => ⟨h.2, h.1⟩, fun h => ⟨h.2, h.1⟩⟩)
  have e3 := split_len (fun x => decide (x ∈ row.filter fun x => decide (x ∈ works))) (r.2.filter fun x => decide (x ∈ works))
  have e4 : ((r.2.filter fun x => decide (x ∈ works)).filter fun x => decide (x ∈ row.filter fun x => decide (x ∈ works))).length = (row.filter fun x => decide (x ∈ works)).length := nodup_same ((nm.filter _).filter _) (nr.filter _) (fun z => by
    simp only [List.mem_filter, decide_eq_true_eq]
    exact ⟨fun h => h.2, fun h => ⟨⟨ho.2.1 z h.1, h.2⟩, h⟩⟩)
  have e5 : ((r.2.filter fun x => decide (x ∈ works)).filter fun x => !decide (x ∈ row.filter fun x => decide (x ∈ works))) = r.2.filter fun x => decide (x ∈ works) && !decide (x ∈ row.filter fun x => decide (x ∈ works)) := by
    rw [List.filter_filter]
    congr 1
    funext x
    exact Bool.and_comm _ _
  rw [e4, e5] at e3
  unfold cnt1 cnt2
  dsimp only
  rw [e2]
  generalize (row.filter fun x => decide (x ∈ works)).length = h at *
  generalize (row.filter fun x => !decide (x ∈ works)).length = o at *
  generalize (r.2.filter fun x => decide (x ∈ works)).length = i at *
  have e6 : (List.filter (fun x => decide (x ∈ works) && !decide (x ∈ List.filter (fun x => decide (x ∈ works)) row)) r.2).length = i - h := by omega
  rw [e6]
  have e7 : ((i - h : Nat) : Int) = (i : Int) - h := by omega
  rw [e7, e1]
  split <;> split <;> omega
/-- one work less in the set takes off none or one -/
theorem cnt_fewer {r : Int × List Int} {row : List Int} {x : Int} {works : List Int} : cnt2 r row (x :: works) - cnt2 r row works = 0 ∨ cnt2 r row (x :: works) - cnt2 r row works = 1 ∨ ¬ (row.Nodup ∧ x ∉ works) := by
  by_cases h : row.Nodup ∧ x ∉ works
  · obtain ⟨nr, nx⟩ := h
    have e1 : ((x :: works).filter fun y => decide (y ∈ r.2)).length = (works.filter fun y => decide (y ∈ r.2)).length + (if x ∈ r.2 then 1 else 0) := by
      by_cases hx : x ∈ r.2 <;> simp [hx]
    have e2 : ∀ row : List Int, row.Nodup → (row.filter fun y => !decide (y ∈ works)).length = (row.filter fun y => !decide (y ∈ x :: works)).length + (if x ∈ row then 1 else 0) := by
      intro row
      induction row with
      | nil => intro _; rfl
      | cons y row ih =>
        intro nd
        have nd' := List.nodup_cons.mp nd
        have ih := ih nd'.2
        by_cases hxy : x = y
        · subst hxy
          have hnr : ¬ x ∈ row := nd'.1
          simp only [hnr, if_false, Nat.add_zero] at ih
          simp [nx, ih]
        · have hyx : ¬ y = x := fun e => hxy e.symm
          have hm : (x ∈ y :: row) ↔ x ∈ row := by simp [hxy]
          by_cases hy : y ∈ works
          · simp [hy, hm, ih]
          · simp [hy, hyx, hm, ih]
            omega
    have e3 := e2 row nr
    unfold cnt2
    dsimp only
    rw [e1, e3]
    generalize (works.filter fun y => decide (y ∈ r.2)).length = i
    generalize (row.filter fun y => !decide (y ∈ x :: works)).length = o
    by_cases h1 : x ∈ r.2 <;> by_cases h2 : x ∈ row <;> simp only [h1, h2, if_true, if_false] <;> (split <;> split <;> omega)
  · exact .inr (.inr h)
/-- one reading more outside of the set takes off none or one -/
theorem cnt_longer {r : Int × List Int} {row row' works : List Int} {x : Int} (hp : row'.Perm (row ++ [x])) (hx : x ∉ works) : cnt2 r row works - cnt2 r row' works = 0 ∨ cnt2 r row works - cnt2 r row' works = 1 := by
  have e : (row'.filter fun y => !decide (y ∈ works)).length = (row.filter fun y => !decide (y ∈ works)).length + 1 := by
    rw [(hp.filter _).length_eq, List.filter_append, List.length_append]
    simp [hx]
  unfold cnt2
  dsimp only
  rw [e]
  split <;> split <;> omega
def cntAt (g : Int × List Int → List Int → List Int → Int) (rs : List (Int × List Int)) (ws : List (List Int)) (works : List Int) (i : Int) : Int := match rs[i.toNat]?, ws[i.toNat]? with
  | some r, some w => g r w works
  | _, _ => 0
def wanted (ds works : List Int) : Int := (works.map fun w => ds.getD w.toNat 0).sum
end Ew
namespace Ew
open PySem PySem.Spec PyProof.Rows L2
/-! ### how long a repr is, what it can show -/
def lens (ts : List Str) : Nat := (ts.map fun t => t.length + 2).sum
theorem textFrom_le : ∀ (ts : List Str) (k : Nat) (acc : Str), (textFrom k acc ts).length ≤ acc.length + lens ts
  | [], _, acc => Nat.le_refl _
  | t :: r, k, acc => by
    have ih := textFrom_le r (k + 1) (acc ++ (if k > 0 then ", " else "" : String) ++ t)
    have e : (acc ++ (if k > 0 then ", " else "" : String) ++ t).length = acc.length + (if k > 0 then 2 else 0) + t.length := by
      rw [strLen_append, strLen_append]
      split <;> rfl
    have e2 : lens (t :: r) = t.length + 2 + lens r := by
      unfold lens
      rw [List.map_cons, List.sum_cons]
    show (textFrom (k + 1) (acc ++ (if k > 0 then ", " else "" : String) ++ t) r).length ≤ _
    rw [e2]
    rw [e] at ih
    have e3 : (if k > 0 then 2 else 0) ≤ 2 := by split <;> omega
    omega
theorem listText_le (ts : List Str) : (listText ts).length ≤ 2 + lens ts := by
  unfold listText
  rw [strLen_append]
  have := textFrom_le ts 0 "["
  have e1 : (("[" : String) : Str).length = 1 := rfl
  have e2 : (("]" : String) : Str).length = 1 := rfl
  rw [e2]
  rw [e1] at this
  omega
theorem piled_lens : ∀ ts : List Str, piled ts = lens ts
  | [] => rfl
  | t :: r => by
    rw [piled_cons, piled_lens r]
    unfold lens
    rw [List.map_cons, List.sum_cons]
theorem tupleText_le (ts : List Str) : (tupleText ts).length ≤ 3 + lens ts := by
  unfold tupleText
  rw [strLen_append, strLen_append]
  have e1 : (("(" : String) : Str).length = 1 := rfl
  have e3 : (((if ts.length == 1 then ",)" else ")" : String)) : Str).length ≤ 2 := by
    split <;> decide
  have e2 : (Str.join ", " ts).length ≤ lens ts := by
    cases ts with
    | nil => exact Nat.zero_le _
    | cons t r =>
      have := join_length_add (t :: r) (by simp)
      rw [piled_lens] at this
      omega
  rw [e1]
  omega
theorem shownAll_map {α : Type} (g : α → PyData) : ∀ l : List α, PyData.shownAll (l.map g) = l.map fun x => PyData.shown (g x)
  | [] => rfl
  | x :: l => by
    show PyData.shown (g x) :: PyData.shownAll (l.map g) = _
    rw [shownAll_map g l]
    rfl
theorem lens_map {α : Type} (g : α → Str) (b : Nat) : ∀ l : List α, (∀ x ∈ l, (g x).length ≤ b) → lens (l.map g) ≤ l.length * (b + 2)
  | [], _ => Nat.zero_le _
  | x :: l, h => by
    have ih := lens_map g b l fun y hy => h y (by simp [hy])
    have hx := h x (by simp)
    have e : lens ((x :: l).map g) = (g x).length + 2 + lens (l.map g) := by
      unfold lens
      rw [List.map_cons, List.map_cons, List.sum_cons]
    rw [e, List.length_cons, Nat.succ_mul]
    omega
theorem showAll_map {α : Type} (g : α → PyData) : ∀ l : List α, (∀ x ∈ l, PyData.showable (g x) = true) → PyData.showableAll (l.map g) = true
  | [], _ => rfl
  | x :: l, h => by
    show (PyData.showable (g x) && PyData.showableAll (l.map g)) = true
    rw [h x (by simp), showAll_map g l fun y hy => h y (by simp [hy])]
    rfl
/-- a small int: 0 to 9 -/
def Dig (i : Int) : Prop := 0 ≤ i ∧ i < 10
theorem dig_cases {i : Int} (h : Dig i) : i = 0 ∨ i = 1 ∨ i = 2 ∨ i = 3 ∨ i = 4 ∨ i = 5 ∨ i = 6 ∨ i = 7 ∨ i = 8 ∨ i = 9 := by
  obtain ⟨h1, h2⟩ := h
  omega
theorem show_int {i : Int} (h : Dig i) : PyData.showable (.int i) = true ∧ (PyData.shown (.int i)).length ≤ 1 := by
  rcases dig_cases h with rfl | rfl | rfl | rfl | rfl | rfl | rfl | rfl | rfl | rfl <;> exact ⟨by decide +kernel, by decide +kernel⟩
theorem show_dT {w : List Int} (h : ∀ x ∈ w, Dig x) : PyData.showable (dT w) = true ∧ (PyData.shown (dT w)).length ≤ 3 + w.length * 3 := by
  refine ⟨showAll_map PyData.int w fun x hx => (show_int (h x hx)).1, ?_⟩
  show (tupleText (PyData.shownAll (w.map PyData.int))).length ≤ _
  rw [shownAll_map]
  exact Nat.le_trans (tupleText_le _) (Nat.add_le_add_left (lens_map _ 1 w fun x hx => (show_int (h x hx)).2) _)
theorem show_dWs {ws : List (List Int)} {b : Nat} (h : ∀ w ∈ ws, w.length ≤ b ∧ ∀ x ∈ w, Dig x) : PyData.showable (dWs ws) = true ∧ (PyData.shown (dWs ws)).length ≤ 2 + ws.length * (5 + b * 3) := by
  refine ⟨showAll_map dT ws fun w hw => (show_dT (h w hw).2).1, ?_⟩
  show (listText (PyData.shownAll (ws.map dT))).length ≤ _
  rw [shownAll_map]
  refine Nat.le_trans (listText_le _) (Nat.add_le_add_left (Nat.le_trans (lens_map _ (3 + b * 3) ws fun w hw => ?_) (Nat.mul_le_mul_left _ (by omega))) _)
  have h1 := (show_dT (h w hw).2).2
  have h2 := Nat.mul_le_mul_right 3 (h w hw).1
  omega
theorem show_bool (b : Bool) : PyData.showable (.bool b) = true ∧ (PyData.shown (.bool b)).length ≤ 5 := by
  cases b <;> exact ⟨rfl, by decide +kernel⟩
def dPr (a b : PyData) : PyData := .list [a, b]
theorem show_dPr {a b : PyData} {n m : Nat} (ha : PyData.showable a = true ∧ (PyData.shown a).length ≤ n) (hb : PyData.showable b = true ∧ (PyData.shown b).length ≤ m) : PyData.showable (dPr a b) = true ∧ (PyData.shown (dPr a b)).length ≤ 6 + n + m := by
  refine ⟨by show (PyData.showable a && (PyData.showable b && true)) = true; rw [ha.1, hb.1]; rfl, ?_⟩
  show (listText [PyData.shown a, PyData.shown b]).length ≤ _
  have := listText_le [PyData.shown a, PyData.shown b]
  have e : lens [PyData.shown a, PyData.shown b] = (PyData.shown a).length + 2 + ((PyData.shown b).length + 2 + 0) := rfl
  rw [e] at this
  have h1 := ha.2
  have h2 := hb.2
  omega
theorem dep_dWs (ws : List (List Int)) : PyData.depth (dWs ws) ≤ 2 := Nat.succ_le_succ (depAll_map dT dep_dT ws)
theorem dep_dPr {a b : PyData} {n : Nat} (ha : PyData.depth a ≤ n) (hb : PyData.depth b ≤ n) : PyData.depth (dPr a b) ≤ n + 1 := by
  show max (PyData.depth a) (max (PyData.depth b) 0) + 1 ≤ n + 1
  omega
theorem cnt2_dig {r : Int × List Int} {row works : List Int} (ho : RowOk r row) (h6 : r.1 ≤ 6) : Dig (cnt2 r row works) := by
  have h1 := List.length_filter_le (fun x => !decide (x ∈ works)) row
  have h2 := ho.2.2
  unfold cnt2 Dig
  dsimp only
  split <;> omega
section
variable {X : Cx}
/-- t + u, whatever is empty -/
def rCat1 (K : PySem.W.Frag) : R2 := fun x y H Q => ∃ a b xs ys, x = .ref a ∧ y = .ref b ∧ SqT K H a xs ∧ SqT K H b ys ∧ xs.length + ys.length ≤ sizeLine ∧ ∀ p H', Same H H' → SqT K H' p (xs ++ ys) → Q (.ref p) H'
theorem op_cat1 : OpR X (binaryOp .Add) (rCat1 X.K) := by
  intro pins s σ H x y v u Q I rx ry h
  obtain ⟨a, b, xs, ys, rfl, rfl, ha, hb, hz, q⟩ := h
  exact op_catA pins s σ H _ _ v u Q I rx ry ⟨a, b, xs, ys, rfl, rfl, ha, hb, hz, fun e => q b H (Same.refl H) (by rw [e]; exact hb), fun _ e => q a H (Same.refl H) (by rw [e, List.append_nil]; exact ha), fun _ _ p np => q p _ (sameU np) (.inl (.inl upd_same))⟩
end
end Ew
namespace Ew
open PySem PySem.Spec PyProof.Rows L2
/-! ### data that may hold an empty dict; lists at places that are as asked -/
mutual
inductive Dq (K : PySem.W.Frag) (P : Addr → Prop) (H : Hp) : V → PyData → Prop
  | non : Dq K P H .non .none
  | bl (b : Bool) : Dq K P H (.bl b) (.bool b)
  | int (i : Int) : Dq K P H (.int i) (.int i)
  | str (x : Str) : Dq K P H (.str x) (.str x)
  | lst {a : Addr} {xs : List V} {ds : List PyData} : P a → H a = some (.lst xs) → DqA K P H xs ds → Dq K P H (.ref a) (.list ds)
  | tup {a : Addr} {xs : List V} {ds : List PyData} : SqT K H a xs → DqA K P H xs ds → Dq K P H (.ref a) (.tuple ds)
  | dic {a : Addr} : H a = some (.dK []) → Dq K P H (.ref a) (.dict [])
inductive DqA (K : PySem.W.Frag) (P : Addr → Prop) (H : Hp) : List V → List PyData → Prop
  | nil : DqA K P H [] []
  | cons {v : V} {d : PyData} {vs : List V} {ds : List PyData} : Dq K P H v d → DqA K P H vs ds → DqA K P H (v :: vs) (d :: ds)
end
def tyD : PyData → String
  | .none => "NoneType"
  | .bool _ => "bool"
  | .int _ => "int"
  | .str _ => "str"
  | .list _ => "list"
  | .tuple _ => "tuple"
  | .dict _ => "dict"
theorem dq_bt {K : PySem.W.Frag} {P : Addr → Prop} {H : Hp} {v : V} {d : PyData} (h : Dq K P H v d) : TyX K H v (.type (tyD d)) := by
  cases h with
  | non => exact .base .non
  | bl b => exact .base (.bl b)
  | int i => exact .base (.int i)
  | str x => exact .base (.str x)
  | lst _ e _ => exact .base (.lst e)
  | tup q _ =>
    rcases q with (h | ⟨o, h⟩) | ⟨o, its, n, h, c, _⟩
    · exact .base (.tup h)
    · exact .fTuple h
    · exact .kTuple h c
  | dic e => exact .base (.dK e)
/-- what such data needs of another heap -/
def Over (P : Addr → Prop) (H H' : Hp) : Prop := ∀ a o, (∀ xs, o = .lst xs → P a) → H a = some o → H' a = some o
mutual
theorem Dq.over {K : PySem.W.Frag} {P : Addr → Prop} {H H' : Hp} (s : Over P H H') : ∀ {d : PyData} {v : V}, Dq K P H v d → Dq K P H' v d
  | .none, _, h => by cases h; exact .non
  | .bool _, _, h => by cases h; exact .bl _
  | .int _, _, h => by cases h; exact .int _
  | .str _, _, h => by cases h; exact .str _
  | .list ds, _, h => by
    cases h with
    | lst p e a => exact .lst p (s _ _ (fun _ _ => p) e) (DqA.over s a)
  | .tuple ds, _, h => by
    cases h with
    | tup q a =>
      refine .tup ?_ (DqA.over s a)
      rcases q with (h | ⟨o, h⟩) | h
      · exact .inl (.inl (s _ _ (fun xs e => by cases e) h))
      · exact .inl (.inr ⟨o, s _ _ (fun xs e => by cases e) h⟩)
      · exact .inr h
  | .dict kvs, _, h => by
    cases h with
    | dic e => exact .dic (s _ _ (fun xs e => by cases e) e)
theorem DqA.over {K : PySem.W.Frag} {P : Addr → Prop} {H H' : Hp} (s : Over P H H') : ∀ {ds : List PyData} {vs : List V}, DqA K P H vs ds → DqA K P H' vs ds
  | [], _, h => by cases h; exact .nil
  | d :: ds, _, h => by
    cases h with
    | cons a b => exact .cons (Dq.over s a) (DqA.over s b)
end
theorem over_same {P : Addr → Prop} {H H' : Hp} (s : Same H H') : Over P H H' := fun _ _ _ e => s _ _ e
theorem over_ext {P : Addr → Prop} {f : Addr} {H H' : Hp} (s : Ext1 f H H') (hf : FeedAt H f) (np : ¬ P f) : Over P H H' := fun a o h e => by
  by_cases n : a = f
  · subst n
    obtain ⟨d, t, z⟩ := hf
    rw [z] at e
    cases e
    exact absurd (h _ rfl) np
  · exact s.1 _ _ n e
theorem over_upd {P : Addr → Prop} {H : Hp} {D : Addr} {xs : List V} {o : HO} (e : H D = some (.lst xs)) (np : ¬ P D) : Over P H (upd H D o) := fun a u h z => by
  by_cases n : a = D
  · subst n
    rw [e] at z
    cases z
    exact absurd (h _ rfl) np
  · rw [upd_ne n]
    exact z
mutual
theorem Dq.imp {K : PySem.W.Frag} {P P' : Addr → Prop} {H : Hp} (s : ∀ a xs, H a = some (.lst xs) → P a → P' a) : ∀ {d : PyData} {v : V}, Dq K P H v d → Dq K P' H v d
  | .none, _, h => by cases h; exact .non
  | .bool _, _, h => by cases h; exact .bl _
  | .int _, _, h => by cases h; exact .int _
  | .str _, _, h => by cases h; exact .str _
  | .list ds, _, h => by
    cases h with
    | lst p e a => exact .lst (s _ _ e p) e (DqA.imp s a)
  | .tuple ds, _, h => by
    cases h with
    | tup q a => exact .tup q (DqA.imp s a)
  | .dict kvs, _, h => by
    cases h with
    | dic e => exact .dic e
theorem DqA.imp {K : PySem.W.Frag} {P P' : Addr → Prop} {H : Hp} (s : ∀ a xs, H a = some (.lst xs) → P a → P' a) : ∀ {ds : List PyData} {vs : List V}, DqA K P H vs ds → DqA K P' H vs ds
  | [], _, h => by cases h; exact .nil
  | d :: ds, _, h => by
    cases h with
    | cons a b => exact .cons (Dq.imp s a) (DqA.imp s b)
end
theorem DqA.len {K : PySem.W.Frag} {P : Addr → Prop} {H : Hp} : ∀ {vs : List V} {ds : List PyData}, DqA K P H vs ds → vs.length = ds.length
  | [], [], _ => rfl
  | _ :: vs, _ :: ds, .cons _ t => by rw [List.length_cons, List.length_cons, DqA.len t]
theorem DqA.at1 {K : PySem.W.Frag} {P : Addr → Prop} {H : Hp} : ∀ {vs : List V} {ds : List PyData} {i : Nat} {v : V}, DqA K P H vs ds → vs[i]? = some v → ∃ d, ds[i]? = some d ∧ Dq K P H v d
  | [], [], i, v, _, e => by simp at e
  | _ :: vs, _ :: ds, 0, v, .cons r _, e => by
    simp at e
    subst e
    exact ⟨_, rfl, r⟩
  | _ :: vs, _ :: ds, i + 1, v, .cons _ t, e => by
    obtain ⟨d, h1, h2⟩ := DqA.at1 (i := i) (v := v) t (by simpa using e)
    exact ⟨d, by simpa using h1, h2⟩
theorem dqA_ints {K : PySem.W.Frag} {P : Addr → Prop} {H : Hp} : ∀ l : List Int, DqA K P H (l.map V.int) (l.map PyData.int)
  | [] => .nil
  | _ :: l => .cons (.int _) (dqA_ints l)
theorem dqA_map {K : PySem.W.Frag} {P : Addr → Prop} {H : Hp} {α : Type} {R : V → α → Prop} {g : α → PyData} (h : ∀ v a, R v a → Dq K P H v (g a)) : ∀ {vs : List V} {as : List α}, Paired R vs as → DqA K P H vs (as.map g)
  | _, _, .nil => .nil
  | _, _, .cons r t => .cons (h _ _ r) (dqA_map h t)
theorem dq_dT {K : PySem.W.Frag} {P : Addr → Prop} {H : Hp} {v : V} {l : List Int} (h : RowT K H v l) : Dq K P H v (dT l) := let ⟨_, e, q⟩ := h; e ▸ .tup q (dqA_ints l)
theorem dqA_app {K : PySem.W.Frag} {P : Addr → Prop} {H : Hp} : ∀ {vs ws : List V} {ds es : List PyData}, DqA K P H vs ds → DqA K P H ws es → DqA K P H (vs ++ ws) (ds ++ es)
  | [], _, [], _, _, h => h
  | _ :: _, _, _ :: _, _, .cons a t, h => .cons a (dqA_app t h)
theorem dqA_set {K : PySem.W.Frag} {P : Addr → Prop} {H : Hp} {v : V} {d : PyData} (hv : Dq K P H v d) : ∀ {vs : List V} {ds : List PyData} (n : Nat), DqA K P H vs ds → DqA K P H (vs.set n v) (ds.set n d)
  | [], [], _, h => h
  | _ :: _, _ :: _, 0, .cons _ t => .cons hv t
  | _ :: _, _ :: _, n + 1, .cons a t => .cons a (dqA_set hv n t)
theorem dqA_dWs {K : PySem.W.Frag} {P : Addr → Prop} {H : Hp} {vs : List V} {ws : List (List Int)} (h : Paired (RowT K H) vs ws) : DqA K P H vs (ws.map dT) := dqA_map (g := dT) (fun _ _ z => dq_dT z) h
theorem dq_dWs {K : PySem.W.Frag} {P : Addr → Prop} {H : Hp} {a : Addr} {vs : List V} {ws : List (List Int)} (p : P a) (e : H a = some (.lst vs)) (h : Paired (RowT K H) vs ws) : Dq K P H (.ref a) (dWs ws) := .lst p e (dqA_dWs h)
/-! ### such data, read -/
section
variable {X : Cx} {pins : List (Addr × Obj)} {σ : L2.St} {H : Hp} {s : Shared} {P : Addr → Prop}
mutual
theorem dq_reads (I : L2.Inv X pins σ H s) (low : H sysModules = none) : ∀ (d : PyData) (v : V) (u : Value), Dq X.K P H v d → L2.RelV v u → ∃ as, Reads s.heap u d as ∧ sysModules ∉ as
  | .none, _, u, h, r => by
    cases h
    cases (show u = Value.none from r)
    exact ⟨_, .none, by simp⟩
  | .bool b, _, u, h, r => by
    cases h
    cases (show u = Value.bool b from r)
    exact ⟨_, .bool b, by simp⟩
  | .int i, _, u, h, r => by
    cases h
    obtain ⟨t, q⟩ := (show ∃ t, u = Value.int i t from r)
    cases q
    exact ⟨_, .int i t, by simp⟩
  | .str x, _, u, h, r => by
    cases h
    obtain ⟨t, q⟩ := (show ∃ t, u = Value.str x t from r)
    cases q
    exact ⟨_, .str x t, by simp⟩
  | .list ds, _, u, h, r => by
    cases h with
    | @lst a xs _ p e ha =>
      cases (show u = Value.ref a from r)
      obtain ⟨_, vs, n, rv, h1⟩ := (show ObjOk X.prog X.w H s.heap a (.lst xs) from I.hok a _ e)
      obtain ⟨as, ra, na⟩ := dqA_reads I low ds xs vs ha rv
      refine ⟨_, .list h1 rfl rfl ra, ?_⟩
      intro z
      rcases List.mem_cons.mp z with z | z
      · rw [z, e] at low
        cases low
      · exact na z
  | .tuple ds, _, u, h, r => by
    cases h with
    | @tup a xs _ q ha =>
      cases (show u = Value.ref a from r)
      obtain ⟨its, rv, ⟨o, h1, h2, n, h3⟩, _⟩ := I.tuple q
      obtain ⟨as, ra, na⟩ := dqA_reads I low ds xs its ha rv
      exact ⟨_, .tuple h1 h2 h3 (by simpa using ra), na⟩
  | .dict kvs, _, u, h, r => by
    cases h with
    | @dic a e =>
      cases (show u = Value.ref a from r)
      obtain ⟨_, z2, vs, z3, o, es, ep, h1, h2, h3, _, h5, _⟩ := (show ObjOk X.prog X.w H s.heap a (.dK []) from I.hok a _ e)
      cases z3
      have hes : es.toList = [] := by
        generalize es.toList = l at h5
        cases h5
        rfl
      refine ⟨_, .dict (as := []) (bs := []) h1 h2.1 h3 (by rw [hes]; exact .nil) (by rw [hes]; exact .nil), ?_⟩
      intro z
      rw [List.append_nil, List.mem_singleton] at z
      rw [← z] at z2
      simp at z2
theorem dqA_reads (I : L2.Inv X pins σ H s) (low : H sysModules = none) : ∀ (ds : List PyData) (vs : List V) (us : List Value), DqA X.K P H vs ds → Vals vs us → ∃ as, ReadsAll s.heap us ds as ∧ sysModules ∉ as
  | [], _, us, h, r => by
    cases h
    cases r
    exact ⟨_, .nil, by simp⟩
  | d :: ds, _, us, h, r => by
    cases h with
    | cons a b =>
      cases r with
      | cons r1 r2 =>
        obtain ⟨as, h1, n1⟩ := dq_reads I low d _ _ a r1
        obtain ⟨bs, h2, n2⟩ := dqA_reads I low ds _ _ b r2
        refine ⟨_, .cons h1 h2, ?_⟩
        intro z
        rcases List.mem_append.mp z with z | z
        · exact n1 z
        · exact n2 z
end
end
def rReprQ (K : PySem.W.Frag) : List V → Hp → VK → Prop := fun xs H Q => ∃ (P : Addr → Prop) (v : V) (d : PyData), xs = [v] ∧ Dq K P H v d ∧ d.showable = true ∧ d.depth ≤ 60 ∧ d.shown.length ≤ sizeLine ∧ Q (.str d.shown) H
section
variable {X : Cx}
theorem low_of {pins : List (Addr × Obj)} {σ : L2.St} {H : Hp} {s : Shared} (I : L2.Inv X pins σ H s) (hb : ∃ o, X.base.get? sysModules = some o) : H sysModules = none := by
  obtain ⟨o, e⟩ := hb
  obtain ⟨h1, h2⟩ := I.ok.bs _ _ e
  exact I.base.free _ _ h1 h2 (I.ok.noex _ _ e)
theorem call_reprQ (hb : ∃ o, X.base.get? sysModules = some o) (hg : X.A.guards = some []) (hu : X.A.units + 64 < cLine) : CallR X (.builtin "repr") (rReprQ X.K) := by
  intro pins s σ H xs us Q I r h
  obtain ⟨P, v, d, rfl, hd, hs, hdep, hsz, q⟩ := h
  cases r with
  | cons r1 r2 =>
    cases r2
    rename_i u
    obtain ⟨as, rd, na⟩ := dq_reads I (low_of I hb) d v u hd r1
    have fin : ∀ a, u = .ref a → wpAny (model X.prog X.w) X.A (call (.builtin "repr") [u]) (EP X pins σ Q) X.xe s := fun a e => by
      subst e
      exact repr_of_reads' rd hs (fun _ => na) hg (by omega) (fun _ _ e => e) (fun h' u tk hk => ⟨.str _, H, I.kept (t' := tk) hk, ⟨_, rfl⟩, q⟩) hsz
    cases hd with
    | non => cases (show u = Value.none from r1); exact PySem.P.repr_of_none ⟨.str _, H, I.tok _, ⟨_, rfl⟩, q⟩
    | bl b => cases (show u = Value.bool b from r1); exact PySem.P.repr_of_bool ⟨.str _, H, I.tok _, ⟨_, rfl⟩, q⟩
    | int i => obtain ⟨t, e⟩ := (show ∃ t, u = Value.int i t from r1); cases e; exact PySem.P.repr_of_int (of_decide_eq_true hs) ⟨.str _, H, I.tok _, ⟨_, rfl⟩, q⟩
    | str y => obtain ⟨t, e⟩ := (show ∃ t, u = Value.str y t from r1); cases e; exact PySem.P.repr_of_str (hsz := hsz) ⟨.str _, H, I.tok _, ⟨_, rfl⟩, q⟩
    | lst _ _ _ => exact fin _ r1
    | tup _ _ => exact fin _ r1
    | dic _ => exact fin _ r1
/-! ### xs != [], whatever stands in xs -/
def rNeNil (K : PySem.W.Frag) (neg : Bool) : R2 := fun x y H Q => ∃ a b xs, x = .ref a ∧ y = .ref b ∧ SqL K H a xs ∧ SqL K H b [] ∧ Q (.bl (if neg then !xs.isEmpty else xs.isEmpty)) H
theorem isL {h : Heap} {a : Addr} {its : Array Value} (p : PlainL h a its) : h.IsList a its := let ⟨o, n, e, c, _, d⟩ := p; ⟨o, e, c, n, d⟩
theorem op_neNil (hu : X.A.units < cLine) : OpR X (compareOp .NotEq) (rNeNil X.K true) := by
  intro pins s σ H x y v u Q I rx ry h
  obtain ⟨a, b, xs, rfl, rfl, ha, hb, q⟩ := h
  cases (show v = Value.ref a from rx)
  cases (show u = Value.ref b from ry)
  obtain ⟨ia, va, la, _⟩ := I.list ha
  obtain ⟨ib, vb, lb, _⟩ := I.list hb
  cases vb
  cases va with
  | nil => exact SeqAt.RcNeAt.lists (e := fun _ => true) (isL la) (isL lb) rfl hu (fun j h1 h2 => absurd h1 (by simp)) _ _ _ _ ⟨.bl false, H, I, rfl, q⟩
  | cons r t => exact SeqAt.RcNeAt.lists_lengths (isL la) (isL lb) (by simp) hu _ _ _ _ ⟨.bl true, H, I, rfl, q⟩
theorem op_eqNil (hu : X.A.units < cLine) : OpR X (compareOp .Eq) (rNeNil X.K false) := by
  intro pins s σ H x y v u Q I rx ry h
  obtain ⟨a, b, xs, rfl, rfl, ha, hb, q⟩ := h
  cases (show v = Value.ref a from rx)
  cases (show u = Value.ref b from ry)
  obtain ⟨ia, va, la, _⟩ := I.list ha
  obtain ⟨ib, vb, lb, _⟩ := I.list hb
  cases vb
  cases va with
  | nil => exact SeqAt.RcAt.lists (e := fun _ => true) (isL la) (isL lb) rfl hu (fun j h1 h2 => absurd h1 (by simp)) _ _ _ _ ⟨.bl true, H, I, rfl, q⟩
  | cons r t => exact SeqAt.RcAt.lists_lengths (isL la) (isL lb) (by simp) hu _ _ _ _ ⟨.bl false, H, I, rfl, q⟩
/-! ### set(t), t a tuple of ints -/
def rSetOfI (K : PySem.W.Frag) (w : World) : List V → Hp → VK → Prop := fun vs H Q => ∃ (l : Addr) (ns : List Int), vs = [V.ref l] ∧ SqT K H l (ns.map V.int) ∧ ns.length ≤ 1000 ∧ ∀ a c, H a = none → c ≤ ns.length → Q (.ref a) (upd H a (SetO w a (fun j => decide (j ∈ ns)) c))
theorem cr_setOfI (hc : X.calm = true) : CallR X (.type "set") (rSetOfI X.K X.w) := by
  intro pins s σ H vs us Q I r h
  obtain ⟨l, ns, rfl, hs, hl, q⟩ := h
  obtain ⟨its, rv, ht, _⟩ := I.tuple hs
  rw [Vals.ref1 r]
  refine call_set_tupI ns (I.ok.hd hc) ht rv.ints (Nat.lt_of_le_of_lt (Nat.succ_le_succ hl) (by decide)) fun h' tk c hS hc' hk => ?_
  refine ⟨.ref _, upd H s.heap.objs.size (SetO X.w s.heap.objs.size (fun j => decide (j ∈ ns)) c), I.laid (t' := tk) hk (Nat.le_refl _) ?_, rfl, q _ c I.fresh hc'⟩
  obtain ⟨o, es, ep, t, e, rest⟩ := id hS
  refine ⟨hS, ⟨o, e⟩, fun h1 h2 hp hk2 => ?_⟩
  obtain ⟨o', es', ep', t', e', rest'⟩ := hp
  exact ⟨o', es', ep', t', hk2 _ e', rest'⟩
end
end Ew
namespace Ew
open PySem PySem.Spec PyProof.Rows L2
/-! ### t[::-1] of a tuple -/
theorem fm_congr {α β : Type} {f g : α → Option β} : ∀ {l : List α}, (∀ x ∈ l, f x = g x) → l.filterMap f = l.filterMap g
  | [], _ => rfl
  | a :: l, h => by
    rw [List.filterMap_cons, List.filterMap_cons, h a (by simp), fm_congr fun x hx => h x (by simp [hx])]
theorem pick_rev (xs : Array Value) : (List.filterMap (fun k => xs[((xs.size : Int) - 1 + ((k : Nat) : Int) * -1).toNat]?) (List.range xs.size)).toArray = xs.toList.reverse.toArray := by
  congr 1
  obtain ⟨l⟩ := xs
  show List.filterMap (fun k => (List.toArray l)[((l.length : Int) - 1 + ((k : Nat) : Int) * -1).toNat]?) (List.range l.length) = l.reverse
  have e : ∀ k ∈ List.range l.length, (fun (k : Nat) => (List.toArray l)[((l.length : Int) - 1 + ((k : Nat) : Int) * -1).toNat]?) k = (fun (k : Nat) => l.reverse[k]?) k := by
    intro k hk
    have hk' := List.mem_range.mp hk
    show (List.toArray l)[((l.length : Int) - 1 + ((k : Nat) : Int) * -1).toNat]? = l.reverse[k]?
    rw [List.getElem?_reverse hk', List.getElem?_toArray]
    congr 1
    omega
  rw [fm_congr e]
  have : ∀ r : List Value, List.filterMap (fun k => r[k]?) (List.range r.length) = r := by
    intro r
    refine List.ext_getElem? fun i => ?_
    have : List.filterMap (fun k => r[k]?) (List.range r.length) = (List.range r.length).map fun k => r.getD k .none := by
      rw [← List.filterMap_eq_map]
      refine fm_congr fun k hk => ?_
      have hk' := List.mem_range.mp hk
      simp [List.getD, hk']
    rw [this, List.getElem?_map]
    by_cases h : i < r.length
    · rw [List.getElem?_range h]
      simp [List.getD, h]
    · rw [List.getElem?_eq_none (by simpa using h), List.getElem?_eq_none (by simpa using h)]
      rfl
  have h2 := this l.reverse
  rw [List.length_reverse] at h2
  exact h2
section
variable {prog : Program} {w : World} {A : Around} {E : Value → Shared → Prop} {s : Shared}
theorem applied_rev {sl : Addr} {u : Tok} {n : Nat} {Q : Int × Int × Nat → Shared → Prop} (hs : s.heap.IsSliceOf sl .none .none (.int (-1) u)) (h : Q ((n : Int) - 1, -1, n) s) :
    wpAny (model prog w) A (Builtin.Slice.sliceApplied (.ref sl) (pure (n : Int))) Q E s := by
  obtain ⟨os, hos, hcs, hds⟩ := id hs
  unfold Builtin.Slice.sliceApplied
  refine wpAny_bind (wpAny_bind (wpAny_field hos hds rfl (wpAny_bind (wpAny_field hos hds rfl (wpAny_bind (wpAny_field hos hds rfl (wpAny_pure ?_)))))))
  refine wpAny_bind (HT.slicePart_ (.int (-1) u) ?_)
  dsimp only
  rw [if_neg (by decide)]
  refine wpAny_bind (slicePart_none (wpAny_bind (slicePart_none (wpAny_bind (wpAny_pure ?_)))))
  have e1 : Builtin.Slice.sliceAdjust none none (-1) (n : Int) = ((n : Int) - 1, -1) := rfl
  have e2 : Builtin.Slice.slicePlaces ((n : Int) - 1) (-1) (-1) = n := by
    unfold Builtin.Slice.slicePlaces
    rw [if_neg (by decide)]
    by_cases hn : n = 0
    · subst hn
      rfl
    · rw [if_pos (by omega)]
      have : ((n : Int) - 1 - -1 - 1) / - -1 + 1 = n := by
        rw [Int.neg_neg, Int.ediv_one]
        omega
      rw [this]
      exact Int.toNat_natCast n
  show wpAny _ _ (match Builtin.Slice.sliceAdjust none none (-1) (n : Int) with
    | (lo, hi) => pure (lo, -1, Builtin.Slice.slicePlaces lo hi (-1))) _ _ _
  rw [e1]
  show wpAny _ _ (pure ((n : Int) - 1, -1, Builtin.Slice.slicePlaces ((n : Int) - 1) (-1) (-1))) _ _ _
  rw [e2]
  exact wpAny_pure h
theorem getItem_tuple_rev {t sl : Addr} {items : Array Value} {u : Tok} {Q : Value → Shared → Prop} (ht : IsTup s.heap t items) (hs : s.heap.IsSliceOf sl .none .none (.int (-1) u)) (hsz : items.size ≤ sizeLine)
    (h : Q (.ref s.heap.objs.size) { s with heap := s.heap.push { cls := .type "tuple", data := .seq items.toList.reverse.toArray } }) : wpAny (model prog w) A (getItem (.ref t) (.ref sl)) Q E s := by
  obtain ⟨os, hos, hcs, hds⟩ := id hs
  have hTs : s.TypeIs (.ref sl) "slice" := ⟨os, hos, hcs⟩
  unfold getItem
  refine wpAny_holding (wpAny_bind (wpAny_sequenceKey (IsTup.typeIs ht) (by decide) (wpAny_bind (wpAny_callSpecial?_slot (IsTup.typeIs ht) slot_tuple_getitem (wpAny_call_entry slot_tuple_getitem (IsTup.typeIs ht) entry_tuple_getitem ?_ (args_tuple_getitem _ _))))))
  show wpAny _ _ (Builtin.«tuple.__getitem__» ⟨[.ref t, .ref sl], []⟩) _ _ _
  unfold Builtin.«tuple.__getitem__»
  refine wpAny_bind (m := slotArgs "__getitem__" 1 ⟨[.ref t, .ref sl], []⟩) (wpAny_pure ?_)
  refine wpAny_bind (tupleItemsOf_ ht (wpAny_bind (wpAny_typeOf hTs ?_)))
  rw [if_pos (by decide)]
  refine wpAny_bind (applied_rev hs ?_)
  dsimp only
  rw [if_neg (by rw [show (((-1 : Int) == 1) = false) from rfl, Bool.and_false, Bool.false_and]; decide)]
  rw [pick_rev]
  refine wpAny_bind (wpAny_newObj_type (wpAny_pure ⟨_, rfl, wpAny_pure h⟩) ?_)
  show items.toList.reverse.toArray.size ≤ sizeLine
  simpa using hsz
end
def tRevT (K : PySem.W.Frag) (te : TE) : TE := fun σ H Q => te σ H fun x H1 => ∃ a xs, x = .ref a ∧ SqT K H1 a xs ∧ ∀ p, H1 p = none → Q (.ref p) (upd H1 p (.tup xs.reverse))
section
variable {X : Cx} {e : Expr} {te : TE}
theorem pe_revT {k : Nat} {p1 p2 p3 pos : Pos} (he : PE X e te) : PE X (e.Subscript (.Slice none none (some (.UnaryOp .USub (.Constant (.int 1) k p1) p2)) p3) pos) (tRevT X.K te) := by
  refine ⟨fun pins s σ H Q I h => Subscript_ (thn (he.run pins s σ H _ I h) fun v s1 ⟨x, H1, I1, r1, q1⟩ => ?_)⟩
  obtain ⟨a, xs, rfl, hx, q⟩ := q1
  cases (show v = Value.ref a from r1)
  refine wpAny_Slice ?_
  rw [evalPart_none X.env]
  refine wpAny_pure ?_
  refine wpAny_pure (thn ((po_some (pe_un un_neg pe_int)).run pins s1 σ H1 (fun o H4 => o = some (-1) ∧ H4 = H1) I1 ⟨1, rfl, -1, rfl, rfl, rfl⟩) fun vs s4 ⟨o, H4, I4, ps, eo, e4⟩ => ?_)
  subst eo
  subst e4
  cases ps with
  | int _ u =>
    have I5 := I4.kept (t' := s4.toks) (h' := s4.heap.push { cls := .type "slice", data := .fields #[.none, .none, .int (-1) u] }) fun b ob q => Heap.get?_push_of_some _ q
    obtain ⟨its, rv, ht, hz⟩ := I5.tuple hx
    refine tail_any (IsTup.typeIs ht) slot_tuple_getitem.lookup ?_ rfl
    refine getItem_tuple_rev ht (Heap.IsSliceOf.new s4.heap _ _ _) (by rw [List.size_toArray, ← rv.length]; exact hz) ?_
    refine ⟨.ref _, upd H4 _ (.tup xs.reverse), I5.laid (t' := s4.toks) (fun b ob q => Heap.get?_push_of_some _ q) (Nat.le_refl _) ?_, rfl, q _ I5.fresh⟩
    have rr : Vals xs.reverse its.reverse := Paired.rev rv
    exact ⟨by rw [List.length_reverse]; exact hz, its.reverse, rr, _, Heap.get?_push_size _ rfl, rfl, 0, by simp⟩
end
/-! ### xs[a:b] = ys -/
def gSlc (to : TE) (tl th : TO) : TG := fun v σ H Q => to σ H fun x H1 => tl σ H1 fun lo H2 => th σ H2 fun hi H3 => ∃ (a b : Addr) (xs ys : List V) (i c : Int), x = .ref a ∧ v = .ref b ∧ lo = some i ∧ hi = some c ∧ H3 a = some (.lst xs) ∧ H3 b = some (.lst ys) ∧ a ≠ b ∧ 0 ≤ i ∧ i ≤ c ∧ c ≤ (xs.length : Int) ∧ xs.length + ys.length ≤ sizeLine ∧ Q σ (upd H3 a (.lst (xs.take i.toNat ++ ys ++ xs.drop c.toNat)))
section
variable {X : Cx} {o : Expr} {to : TE} {lo hi : Option Expr} {tl th : TO} {pos p2 : Pos}
theorem pg_slc (ho : PE X o to) (hl : PO X lo tl) (hh : PO X hi th)
    (ha : ∀ v : Value, assign (o.Subscript (.Slice lo hi none p2) pos) X.env v = (do
      let ov ← holding [v] (eval o X.env)
      let iv ← holding [v, ov] (eval (.Slice lo hi none p2) X.env)
      standAt pos
      holding [v, ov, iv] (setItem ov iv v)
      release [iv, v, ov] []) := by intro _; rfl) : PG X (o.Subscript (.Slice lo hi none p2) pos) (gSlc to tl th) := by
  refine ⟨fun pins s σ H v u Q I r h => ?_⟩
  rw [ha u]
  refine wpAny_bind (wpAny_holding (thn (ho.run pins s σ H _ I h) fun ov s1 ⟨x, H1, I1, r1, q1⟩ => wpAny_bind (wpAny_holding (wpAny_Slice (thn (hl.run pins s1 σ H1 _ I1 q1) fun vl s2 ⟨l, H2, I2, pl, q2⟩ => thn (hh.run pins s2 σ H2 _ I2 q2) fun vu s3 ⟨z, H3, I3, pu, q3⟩ => ?_)))))
  rw [evalPart_none X.env]
  refine wpAny_pure (wpAny_bind (wpAny_standAt (wpAny_bind (wpAny_holding ?_))))
  obtain ⟨a, b, xs, ys, i, c, rfl, rfl, rfl, rfl, hA, hB, nab, i0, ic, cl, hz, q⟩ := q3
  cases (show ov = Value.ref a from r1)
  cases (show u = Value.ref b from r)
  cases pl with
  | int _ t1 =>
    cases pu with
    | int _ t2 =>
      have I4 := I3.kept (t' := s3.toks) (h' := s3.heap.push { cls := .type "slice", data := .fields #[.int i t1, .int c t2, .none] }) fun b ob q => Heap.get?_push_of_some _ q
      exact set_slice I4 hA hB nab (Heap.IsSliceOf.new s3.heap _ _ _) ⟨_, rfl⟩ ⟨_, rfl⟩ i0 ic cl hz fun s' I5 => wpAny_release ⟨σ, _, I5, q⟩
end
end Ew
namespace Ew
open PySem PySem.Spec PyProof.Rows L2
/-! ### rows as data of any kind -/
instance (r : Int × List Int) (w : List Int) : Decidable (RowOk r w) := by unfold RowOk; infer_instance
def intsOf : List PyData → Option (List Int)
  | [] => some []
  | .int i :: r => (intsOf r).map (i :: ·)
  | _ :: _ => none
def rowOf : PyData → Option (List Int)
  | .tuple ds => intsOf ds
  | _ => none
def isRowD (r : Int × List Int) (d : PyData) : Bool := match rowOf d with
  | some w => decide (RowOk r w)
  | none => false
def areRowsD (rs : List (Int × List Int)) : PyData → Bool
  | .list ds => decide (ds.length = rs.length) && (ds.zip rs).all fun p => isRowD p.2 p.1
  | _ => false
def ascI (n : Int) : Int → List Int → Bool
  | _, [] => true
  | l, i :: r => decide (l < i) && decide (i < n) && ascI n i r
theorem intsOf_map : ∀ w : List Int, intsOf (w.map .int) = some w
  | [] => rfl
  | i :: w => by
    show (intsOf (w.map .int)).map (i :: ·) = _
    rw [intsOf_map w]
    rfl
theorem rowOf_dT (w : List Int) : rowOf (dT w) = some w := intsOf_map w
theorem ascI_iff {n : Int} : ∀ {w : List Int} {l : Int}, ascI n l w = true ↔ w.Pairwise (· < ·) ∧ ∀ x ∈ w, l < x ∧ x < n
  | [], l => by simp [ascI]
  | i :: w, l => by
    have ih := ascI_iff (n := n) (w := w) (l := i)
    show (decide (l < i) && decide (i < n) && ascI n i w) = true ↔ _
    rw [Bool.and_eq_true, Bool.and_eq_true, ih, decide_eq_true_eq, decide_eq_true_eq, List.pairwise_cons]
    constructor
    · rintro ⟨⟨h1, h2⟩, h3, h4⟩
      refine ⟨⟨fun x hx => (h4 x hx).1, h3⟩, fun x hx => ?_⟩
      rcases List.mem_cons.mp hx with e | e
      · subst e; exact ⟨h1, h2⟩
      · have := h4 x e; omega
    · rintro ⟨⟨h1, h2⟩, h3⟩
      have h0 := h3 i (by simp)
      exact ⟨h0, h2, fun x hx => ⟨h1 x hx, (h3 x (by simp [hx])).2⟩⟩
section
variable {K : PySem.W.Frag} {P : Addr → Prop} {H : Hp}
theorem ints_of : ∀ {vs : List V} {ds : List PyData} {w : List Int}, DqA K P H vs ds → intsOf ds = some w → vs = w.map V.int ∧ ds = w.map .int
  | [], [], w, _, e => by
    cases (show w = [] from (Option.some.inj e).symm)
    exact ⟨rfl, rfl⟩
  | v :: vs, d :: ds, w, .cons a t, e => by
    cases a with
    | int i =>
      cases h : intsOf ds with
      | none =>
        have : intsOf (.int i :: ds) = none := by show (intsOf ds).map (i :: ·) = none; rw [h]; rfl
        rw [this] at e
        cases e
      | some w' =>
        have : intsOf (.int i :: ds) = some (i :: w') := by show (intsOf ds).map (i :: ·) = _; rw [h]; rfl
        rw [this] at e
        cases e
        obtain ⟨e1, e2⟩ := ints_of t h
        rw [e1, e2]
        exact ⟨rfl, rfl⟩
    | _ => cases e
theorem dqA_ty {vs : List V} {ds : List PyData} (h : DqA K P H vs ds) : ∀ y ∈ vs, ∃ T, TyX K H y (.type T) := by
  intro y hy
  obtain ⟨i, hi⟩ := List.getElem?_of_mem hy
  obtain ⟨d, _, hd⟩ := h.at1 hi
  exact ⟨_, dq_bt hd⟩
end
theorem RdOk.mem {n : Int} {r : Int × List Int} (h : RdOk n r) {x : Int} (hx : x ∈ r.2) : 0 ≤ x ∧ x < n := h.2.2.2 x hx
/-- a row, as the package looks at it -/
theorem isRow_asc {n : Int} {r : Int × List Int} {w : List Int} (h : RdOk n r) : decide (RowOk r w) = (ascI n (-1) w && (decide ((w.length : Int) ≤ r.1) && w.all fun x => decide (x ∈ r.2))) := by
  rw [Bool.eq_iff_iff, Bool.and_eq_true, Bool.and_eq_true, ascI_iff, decide_eq_true_eq, decide_eq_true_eq, List.all_eq_true]
  constructor
  · rintro ⟨h1, h2, h3⟩
    exact ⟨⟨h1, fun x hx => by have := h.mem (h2 x hx); omega⟩, h3, fun x hx => decide_eq_true (h2 x hx)⟩
  · rintro ⟨⟨h1, _⟩, h3, h4⟩
    exact ⟨h1, fun x hx => of_decide_eq_true (h4 x hx), h3⟩
theorem asc_same : ∀ {a b : List Int}, a.Pairwise (· < ·) → b.Pairwise (· < ·) → (∀ x, x ∈ a ↔ x ∈ b) → a = b
  | [], [], _, _, _ => rfl
  | [], y :: b, _, _, h => by have := (h y).mpr (by simp); simp at this
  | x :: a, [], _, _, h => by have := (h x).mp (by simp); simp at this
  | x :: a, y :: b, ha, hb, h => by
    have ha' := List.pairwise_cons.mp ha
    have hb' := List.pairwise_cons.mp hb
    have e : x = y := by
      rcases List.mem_cons.mp ((h x).mp (by simp)) with e | e
      · exact e
      · rcases List.mem_cons.mp ((h y).mpr (by simp)) with e2 | e2
        · exact e2.symm
        · have := hb'.1 x e
          have := ha'.1 y e2
          omega
    subst e
    have : a = b := asc_same ha'.2 hb'.2 fun z => by
      constructor
      · intro hz
        rcases List.mem_cons.mp ((h z).mp (by simp [hz])) with e | e
        · have := ha'.1 z hz; omega
        · exact e
      · intro hz
        rcases List.mem_cons.mp ((h z).mpr (by simp [hz])) with e | e
        · have := hb'.1 z hz; omega
        · exact e
    rw [this]
/-- a list is its own things in order, once each, where it is ascending -/
theorem sorted_self {w ns : List Int} (h1 : ns.Pairwise (· < ·)) (h2 : ∀ k, k ∈ ns ↔ k ∈ w) : decide (w = ns) = decide (w.Pairwise (· < ·)) := by
  rw [Bool.eq_iff_iff, decide_eq_true_eq, decide_eq_true_eq]
  constructor
  · intro e; rw [e]; exact h1
  · intro h; exact asc_same h h1 fun x => (h2 x).symm
/-- data that is rows -/
theorem rows_of {K : PySem.W.Frag} {P : Addr → Prop} {H : Hp} : ∀ {rs : List (Int × List Int)} {ds : List PyData} {vs : List V}, DqA K P H vs ds → ds.length = rs.length → ((ds.zip rs).all fun p => isRowD p.2 p.1) = true →
    ∃ ws : List (List Int), ds = ws.map dT ∧ Paired (RowT K H) vs ws ∧ Paired RowOk rs ws
  | [], [], [], _, _, _ => ⟨[], rfl, .nil, .nil⟩
  | r :: rs, d :: ds, v :: vs, .cons a t, el, h => by
    have h' : isRowD r d = true ∧ ((ds.zip rs).all fun p => isRowD p.2 p.1) = true := by
      rw [List.zip_cons_cons, List.all_cons, Bool.and_eq_true] at h
      exact h
    obtain ⟨ws, e1, e2, e3⟩ := rows_of t (by simpa using el) h'.2
    have h1 := h'.1
    unfold isRowD at h1
    cases a with
    | @tup ad xs es q ha =>
      cases he : intsOf es with
      | none =>
        have : rowOf (.tuple es) = none := he
        rw [this] at h1
        cases h1
      | some w =>
        have : rowOf (.tuple es) = some w := he
        rw [this] at h1
        obtain ⟨f1, f2⟩ := ints_of ha he
        subst f1
        subst f2
        refine ⟨w :: ws, ?_, .cons ⟨_, rfl, q⟩ e2, .cons (of_decide_eq_true h1) e3⟩
        rw [e1]
        rfl
    | _ => cases h1
/-! ### the present rows -/
def presR (as : List Int) : Nat → List (List Int) → List (List Int)
  | _, [] => []
  | k, w :: ws => if ((k : Nat) : Int) ∈ as then presR as (k + 1) ws else w :: presR as (k + 1) ws
theorem presR_snoc (as : List Int) (w : List Int) : ∀ (ws : List (List Int)) (k : Nat), presR as k (ws ++ [w]) = presR as k ws ++ (if ((k + ws.length : Nat) : Int) ∈ as then [] else [w])
  | [], k => rfl
  | v :: ws, k => by
    have ih := presR_snoc as w ws (k + 1)
    have e : k + 1 + ws.length = k + (v :: ws).length := by rw [List.length_cons]; omega
    rw [e] at ih
    show (if ((k : Nat) : Int) ∈ as then presR as (k + 1) (ws ++ [w]) else v :: presR as (k + 1) (ws ++ [w])) = (if ((k : Nat) : Int) ∈ as then presR as (k + 1) ws else v :: presR as (k + 1) ws) ++ _
    rw [ih]
    split <;> rfl
theorem presR_len (as : List Int) : ∀ (ws : List (List Int)) (k : Nat), (presR as k ws).length ≤ ws.length
  | [], _ => Nat.le_refl _
  | v :: ws, k => by
    have ih := presR_len as ws (k + 1)
    show (if ((k : Nat) : Int) ∈ as then presR as (k + 1) ws else v :: presR as (k + 1) ws).length ≤ _
    split
    · rw [List.length_cons]; omega
    · rw [List.length_cons, List.length_cons]; omega
theorem presR_nil : ∀ (ws : List (List Int)) (k : Nat), presR [] k ws = ws
  | [], _ => rfl
  | v :: ws, k => by
    show (if ((k : Nat) : Int) ∈ [] then presR [] (k + 1) ws else v :: presR [] (k + 1) ws) = _
    rw [if_neg (by simp), presR_nil ws]
theorem presR_mem (as : List Int) : ∀ (ws : List (List Int)) (k : Nat) {w : List Int}, w ∈ presR as k ws → w ∈ ws
  | v :: ws, k, w, h => by
    have h' : w ∈ (if ((k : Nat) : Int) ∈ as then presR as (k + 1) ws else v :: presR as (k + 1) ws) := h
    split at h'
    · exact List.mem_cons_of_mem _ (presR_mem as ws (k + 1) h')
    · rcases List.mem_cons.mp h' with e | e
      · rw [e]; simp
      · exact List.mem_cons_of_mem _ (presR_mem as ws (k + 1) e)
/-- rows in which absent readers read nothing, and the others what they read -/
def contB (as : List Int) : Nat → List (List Int) → List (List Int) → Bool
  | k, w :: ws, v :: vs => (if ((k : Nat) : Int) ∈ as then decide (v = []) else w.all fun x => decide (x ∈ v)) && contB as (k + 1) ws vs
  | _, _, _ => true
theorem contB_pres {as : List Int} {c : Int} : ∀ {ws vs : List (List Int)} {k : Nat}, ws.length = vs.length → contB as k ws vs = true → ((presR as k vs).filter fun r => decide (c ∈ r)) = vs.filter fun r => decide (c ∈ r)
  | [], [], _, _, _ => rfl
  | w :: ws, v :: vs, k, el, h => by
    have h' : (if ((k : Nat) : Int) ∈ as then decide (v = []) else w.all fun x => decide (x ∈ v)) = true ∧ contB as (k + 1) ws vs = true := by
      have : ((if ((k : Nat) : Int) ∈ as then decide (v = []) else w.all fun x => decide (x ∈ v)) && contB as (k + 1) ws vs) = true := h
      exact Bool.and_eq_true_iff.mp this
    have ih := contB_pres (c := c) (k := k + 1) (by simpa using el) h'.2
    have h1 := h'.1
    show ((if ((k : Nat) : Int) ∈ as then presR as (k + 1) vs else v :: presR as (k + 1) vs).filter fun r => decide (c ∈ r)) = _
    by_cases hk : ((k : Nat) : Int) ∈ as
    · rw [if_pos hk, ih]
      rw [if_pos hk] at h1
      have := of_decide_eq_true h1
      subst this
      rfl
    · rw [if_neg hk, List.filter_cons, List.filter_cons, ih]
end Ew
namespace Ew
open PySem PySem.Spec PyProof.Rows L2
/-! ### small data: what its repr asks -/
structure Sm (n b : Nat) (d : PyData) : Prop where
  can : d.showable = true
  dep : d.depth ≤ n
  len : d.shown.length ≤ b
theorem Sm.mono {n m b c : Nat} {d : PyData} (h : Sm n b d) (h1 : n ≤ m) (h2 : b ≤ c) : Sm m c d := ⟨h.can, Nat.le_trans h.dep h1, Nat.le_trans h.len h2⟩
theorem showAll_of : ∀ {ds : List PyData}, (∀ d ∈ ds, d.showable = true) → PyData.showableAll ds = true
  | [], _ => rfl
  | d :: ds, h => by
    show (PyData.showable d && PyData.showableAll ds) = true
    rw [h d (by simp), showAll_of fun x hx => h x (by simp [hx])]
    rfl
theorem depAll_of {n : Nat} : ∀ {ds : List PyData}, (∀ d ∈ ds, d.depth ≤ n) → PyData.depthAll ds ≤ n
  | [], _ => Nat.zero_le _
  | d :: ds, h => Nat.max_le.mpr ⟨h d (by simp), depAll_of fun x hx => h x (by simp [hx])⟩
theorem shownAll_eq : ∀ ds : List PyData, PyData.shownAll ds = ds.map PyData.shown
  | [] => rfl
  | d :: ds => by
    show PyData.shown d :: PyData.shownAll ds = _
    rw [shownAll_eq ds]
    rfl
theorem sm_list {n b : Nat} {ds : List PyData} (h : ∀ d ∈ ds, Sm n b d) : Sm (n + 1) (3 + ds.length * (b + 2)) (.list ds) := by
  refine ⟨showAll_of fun d hd => (h d hd).can, Nat.succ_le_succ (depAll_of fun d hd => (h d hd).dep), ?_⟩
  show (listText (PyData.shownAll ds)).length ≤ _
  rw [shownAll_eq]
  have h1 := listText_le (ds.map PyData.shown)
  have h2 := lens_map PyData.shown b ds fun d hd => (h d hd).len
  omega
theorem sm_tuple {n b : Nat} {ds : List PyData} (h : ∀ d ∈ ds, Sm n b d) : Sm (n + 1) (3 + ds.length * (b + 2)) (.tuple ds) := by
  refine ⟨showAll_of fun d hd => (h d hd).can, Nat.succ_le_succ (depAll_of fun d hd => (h d hd).dep), ?_⟩
  show (tupleText (PyData.shownAll ds)).length ≤ _
  rw [shownAll_eq]
  have h1 := tupleText_le (ds.map PyData.shown)
  have h2 := lens_map PyData.shown b ds fun d hd => (h d hd).len
  omega
theorem sm_dig {i : Int} (h : Dig i) : Sm 0 1 (.int i) := ⟨(show_int h).1, Nat.zero_le _, (show_int h).2⟩
theorem sm_neg : Sm 0 2 (.int (-1)) := ⟨by decide +kernel, Nat.zero_le _, by decide +kernel⟩
theorem sm_non : Sm 0 4 .none := ⟨rfl, Nat.zero_le _, by decide +kernel⟩
theorem sm_bl (b : Bool) : Sm 0 5 (.bool b) := ⟨(show_bool b).1, Nat.zero_le _, (show_bool b).2⟩
theorem sm_nil : Sm 1 2 (.list []) := ⟨rfl, Nat.le_refl _, by decide +kernel⟩
theorem sm_tnil : Sm 1 2 (.tuple []) := ⟨rfl, Nat.le_refl _, by decide +kernel⟩
theorem sm_dic : Sm 1 2 (.dict []) := ⟨by decide +kernel, by decide +kernel, by decide +kernel⟩
/-- few small ints -/
def SmI (w : List Int) : Prop := w.length ≤ 20 ∧ ∀ x ∈ w, Dig x
theorem sm_ints {w : List Int} (h : ∀ x ∈ w, Dig x) : ∀ d ∈ w.map PyData.int, Sm 0 1 d := by
  intro d hd
  obtain ⟨x, hx, rfl⟩ := List.mem_map.mp hd
  exact sm_dig (h x hx)
theorem sm_dT {w : List Int} (h : SmI w) : Sm 2 400 (dT w) := by
  refine (sm_tuple (sm_ints h.2)).mono (by decide) ?_
  have := h.1
  rw [List.length_map]
  omega
/-- a value that is small data -/
def Nice (K : PySem.W.Frag) (P : Addr → Prop) (n b : Nat) (H : Hp) (v : V) : Prop := ∃ d, Dq K P H v d ∧ Sm n b d
section
variable {K : PySem.W.Frag} {P : Addr → Prop} {n b : Nat} {H H' : Hp} {v : V}
theorem Nice.over (s : Over P H H') (h : Nice K P n b H v) : Nice K P n b H' v := let ⟨d, h1, h2⟩ := h; ⟨d, h1.over s, h2⟩
theorem Nice.mono {m c : Nat} (h : Nice K P n b H v) (h1 : n ≤ m) (h2 : b ≤ c) : Nice K P m c H v := let ⟨d, a, z⟩ := h; ⟨d, a, z.mono h1 h2⟩
theorem Nice.imp {P' : Addr → Prop} (s : ∀ a xs, H a = some (.lst xs) → P a → P' a) (h : Nice K P n b H v) : Nice K P' n b H v := let ⟨d, a, z⟩ := h; ⟨d, a.imp s, z⟩
theorem nice_row {w : List Int} (h : RowT K H v w) (s : SmI w) : Nice K P 2 400 H v := ⟨_, dq_dT h, sm_dT s⟩
theorem sm_app {n b : Nat} {ds es : List PyData} (h1 : ∀ d ∈ ds, Sm n b d) (h2 : ∀ d ∈ es, Sm n b d) : ∀ d ∈ ds ++ es, Sm n b d := fun d h => (List.mem_append.mp h).elim (h1 d) (h2 d)
/-- ints, such a value, ints -/
theorem nice_mid {p : Addr} {a c : List Int} {one : V} (h : SqT K H p (a.map V.int ++ [one] ++ c.map V.int)) (h1 : Nice K P 1 6 H one) (ha : SmI a) (hc : SmI c) : Nice K P 2 400 H (.ref p) := by
  obtain ⟨d, hd, sd⟩ := h1
  refine ⟨.tuple (a.map .int ++ [d] ++ c.map .int), .tup h (dqA_app (dqA_app (dqA_ints a) (.cons hd .nil)) (dqA_ints c)), ?_⟩
  have h0 : ∀ z ∈ a.map PyData.int ++ [d] ++ c.map PyData.int, Sm 1 6 z := sm_app (sm_app (fun z hz => (sm_ints ha.2 z hz).mono (by decide) (by decide)) (fun z hz => by rw [List.mem_singleton.mp hz]; exact sd)) (fun z hz => (sm_ints hc.2 z hz).mono (by decide) (by decide))
  refine (sm_tuple h0).mono (Nat.le_refl _) ?_
  rw [List.length_append, List.length_append, List.length_map, List.length_map]
  show 3 + (a.length + 1 + c.length) * 8 ≤ 400
  have := ha.1
  have := hc.1
  omega
/-- a list of such values, as data -/
theorem nice_all : ∀ {vs : List V}, (∀ v ∈ vs, Nice K P n b H v) → ∃ ds, DqA K P H vs ds ∧ ds.length = vs.length ∧ ∀ d ∈ ds, Sm n b d
  | [], _ => ⟨[], .nil, rfl, fun d h => by simp at h⟩
  | v :: vs, h => by
    obtain ⟨d, h1, h2⟩ := h v (by simp)
    obtain ⟨ds, h3, h4, h5⟩ := nice_all (vs := vs) fun x hx => h x (by simp [hx])
    refine ⟨d :: ds, .cons h1 h3, by rw [List.length_cons, List.length_cons, h4], fun z hz => ?_⟩
    rcases List.mem_cons.mp hz with e | e
    · rw [e]; exact h2
    · exact h5 z e
theorem nice_lst {a : Addr} {vs : List V} (p : P a) (e : H a = some (.lst vs)) (h : ∀ v ∈ vs, Nice K P n b H v) : Nice K P (n + 1) (3 + vs.length * (b + 2)) H (.ref a) := by
  obtain ⟨ds, h1, h2, h3⟩ := nice_all h
  refine ⟨.list ds, .lst p e h1, ?_⟩
  rw [← h2]
  exact sm_list h3
theorem nice_tup {a : Addr} {vs : List V} (e : SqT K H a vs) (h : ∀ v ∈ vs, Nice K P n b H v) : Nice K P (n + 1) (3 + vs.length * (b + 2)) H (.ref a) := by
  obtain ⟨ds, h1, h2, h3⟩ := nice_all h
  refine ⟨.tuple ds, .tup e h1, ?_⟩
  rw [← h2]
  exact sm_tuple h3
end
theorem SmI.sub {w v : List Int} (h : SmI w) (hl : v.length ≤ w.length) (hm : ∀ x ∈ v, x ∈ w) : SmI v := ⟨Nat.le_trans hl h.1, fun x hx => h.2 x (hm x hx)⟩
theorem cut_ints (w : List Int) (lo hi : Option Int) : ∃ v : List Int, cutV (w.map V.int) lo hi = v.map V.int ∧ v.length ≤ w.length ∧ ∀ x ∈ v, x ∈ w := by
  unfold cutV
  rw [List.length_map]
  refine ⟨(w.drop (HT.sIx w.length 0 lo)).take (HT.sIx w.length w.length hi - HT.sIx w.length 0 lo), by rw [List.map_take, List.map_drop], ?_, fun x hx => List.mem_of_mem_drop (List.mem_of_mem_take hx)⟩
  rw [List.length_take, List.length_drop]
  omega
theorem all_of {α : Type} {p : α → Prop} {xs : List α} {x : α} (h : x ∈ xs) (f : ∀ x ∈ xs, p x) : p x := f x h
end Ew
namespace Ew
open PySem PySem.Spec PyProof.Rows L2
section
variable {P : Program} {w : World} {K : PySem.W.Frag} {mg mb : Str → Option Value} {k : Nat} {fa a : Addr} {fd : FuncData} {x : Str} {sp : Sp} {s₁ : Shared} {vs : List Value} {ns : List Int}
/-- the law's call from an abstract heap that tracks at most the script -/
theorem call_from2 {H : Hp} (KX : K.In s₁.heap) (hns : s₁.heap.Ns mainGlobals mg) (hb : s₁.heap.Ns builtinsNs mb) (hbb : ∀ x : Str, x ≠ "__name__" → mb x = bootBuiltins x) (hlim : s₁.heap.NoLimit) (hg : s₁.gens = #[])
    (hr : Room k callerA) (hmods : ∃ o es ep, s₁.heap.get? sysModules = some o ∧ o.data = .dict es ep) (F : ∀ base : Heap, K.In base → base.Ns mainGlobals mg → (∃ o, base.get? sysModules = some o) → FnOkG P w K mg base k fa fd [x] sp) (hbind : ∀ (s : Shared) (u : Value), BindsTo s fd ⟨[u], []⟩ [(x, u)])
    (hsp : sp [.ref a] H (fun v _ => v = .bl true) fun _ _ _ => False) (hok : HOk P w H s₁.heap) (dicts : ∀ b o es ep, s₁.heap.get? b = some o → o.data = .dict es ep → H b = none) (kept : ∀ b o, K.lookup b = some o → H b = none)
    (frz : ∀ b u, H b = some u → ∃ o xs, u = .frz o (.lst xs)) :
    codeAny (model P w) callerA (.call (.ref fa) ⟨[.ref a], []⟩) (fun r s' => r = .ok (.ret (.bool true)) ∧ OldK s₁.heap s'.heap ∧ s'.os = s₁.os ∧ AllBare s'.gens) s₁ := by
  have nsB : ∀ {b : Addr} {m : Str → Option Value}, s₁.heap.Ns b m → (hidT s₁.heap H).Ns b m := by
    rintro b m ⟨o, es, ep, e, d, r⟩
    exact ⟨o, es, ep, hidT_get e (dicts _ _ _ _ e d), d, r⟩
  have inB : K.In (hidT s₁.heap H) := fun b o e => hidT_get (KX b o e) (kept b o e)
  have hM : Mod K mg (hidT s₁.heap H) := ⟨inB, nsB hns, ⟨mb, nsB hb, hbb⟩, let ⟨mc, h1, h2⟩ := hlim; ⟨mc, nsB h1, h2⟩⟩
  have noFr : ∀ b ∈ frs ([] : List Env), H b = none := fun b z => absurd (show b ∈ ([] : List Addr) from z) (by simp)
  have e0 : Env0 P w K mg (hidT s₁.heap H) callerA [] s₁ H := ⟨rfl, hM, fun b o e => of_hidT e, Nat.le_of_eq (hidT_size _ _), trivial, noFr, hok, .of_eq hg⟩
  refine codeAny_mono ((F _ inB (nsB hns) (let ⟨o, es, ep, e, d⟩ := hmods; ⟨o, hidT_get e (dicts _ _ _ _ e d)⟩)).run callerA [] s₁ H ⟨[.ref a], []⟩ [.ref a] [.ref a] _ _ rfl hr e0 (hbind s₁ (.ref a)) (.cons rfl .nil) hsp) fun r s' h => ?_
  cases r with
  | error e => exact False.elim h
  | ok fl =>
    cases fl with
    | next => exact False.elim h
    | brk => exact False.elim h
    | cont => exact False.elim h
    | ret u =>
      obtain ⟨v, H', os, bare, un, hok', r', q⟩ := h
      obtain rfl : v = .bl true := q
      obtain rfl : u = Value.bool true := r'
      refine ⟨rfl, OldK.of_keep fun b o e => ?_, os, bare⟩
      cases hb2 : H b with
      | none => exact un.keep b o e hb2 (fun z => absurd (show b ∈ ([] : List Addr) from z) (by simp)) (by simp)
      | some u =>
        obtain ⟨ob, xs, rfl⟩ := frz b u hb2
        obtain ⟨e1, _⟩ := hok b _ hb2
        obtain ⟨e2, _⟩ := hok' b _ (un.frzs b ob _ hb2)
        exact e2.trans (e1.symm.trans e)
end
/-- the end of a law whose def asks that no repr is under way -/
theorem walk_ofG2 {l : PySem.W.OpenLaw} {n k : Nat} {q : Program} {loose : List Str} {XP : (Str → Option Value) → Heap → Prop} {YP : World → Heap → Prop} {d : DefRec} {K : Params → PySem.W.Frag} {sp : World → Sp} {x : Str}
    (hn : l.most = some n) (hn2 : n ≤ sizeLine) (hdf : d.params.defaults = []) (hr : Room k callerA) (hq : importsNone q = true)
    (hY : ∀ (w : World) (h : Heap), YP w h → (K w.params).In h)
    (F : ∀ (w : World) (mg : Str → Option Value) (fa : Addr) (h : Heap), (K w.params).In h → h.Ns mainGlobals mg → mg d.name = some (.ref fa) →
      ∃ fd : FuncData, (∀ (s : Shared) (u : Value), BindsTo s fd ⟨[u], []⟩ [(x, u)]) ∧
        ∀ base : Heap, (K w.params).In base → base.Ns mainGlobals mg → (∃ o, base.get? sysModules = some o) → FnOkG l.prog w (K w.params) mg base k fa fd [x] (sp w))
    (hsp : ∀ (w : World) (H : Hp) (a : Addr) (ns : List Int), ns.length ≤ n → SqL (K w.params) H a (ns.map V.int) → sp w [.ref a] H (fun v _ => v = .bl true) fun _ _ _ => False) :
    PySem.W.WalkO q loose XP YP l.row.toRowW d [] (fun f vs => PySem.call f vs) := by
  refine Att.attach_call hn hdf fun w s₀ s₁ mg mb fa o pm cd doc a vs ns G Y ho hd hcd hmg hobj hints hlen hg => ?_
  have KX := hY w _ Y
  have hmods : ∃ o es ep, s₁.heap.get? sysModules = some o ∧ o.data = .dict es ep := by
    obtain ⟨mm, ⟨o, es, ep, e, dd, _⟩, _⟩ := (G.T.seer hq).mods
    exact ⟨o, es, ep, e, dd⟩
  obtain ⟨fd, hb, hF⟩ := F w mg fa _ KX G.T.g hmg
  have rv := vals_ints hints
  have ls : (ns.map V.int).length ≤ sizeLine := by rw [List.length_map]; exact Nat.le_trans hlen hn2
  cases hk : (K w.params).lookup a with
  | some o =>
    -- the script is one of the module's own objects
    have e := KX a o hk
    rw [hobj] at e
    cases e
    have none_ : ∀ b, (fun _ => none : Hp) b = none := fun _ => rfl
    refine call_from2 (H := fun _ => none) KX G.T.g G.T.b G.T.builtins G.T.nolimit hg hr hmods hF hb (hsp w _ a ns hlen (.inr ⟨_, vs.toArray, _, hk, rfl, rfl, rfl, ?_, by simpa using rv⟩)) (fun b u z => by cases z) (fun _ _ _ _ _ _ => rfl) (fun _ _ _ => rfl) (fun b u z => by cases z)
    rw [List.size_toArray, ← rv.length]
    exact ls
  | none =>
    refine call_from2 (H := only a { cls := .type "list", data := .seq vs.toArray } (ns.map V.int)) KX G.T.g G.T.b G.T.builtins G.T.nolimit hg hr hmods hF hb (hsp w _ a ns hlen (.inl (.inr ⟨_, only_at⟩))) (fun b u z => ?_) (fun b ob es ep e d => ?_) (fun b ob e => ?_) (fun b u z => ⟨_, _, (only_is z).2⟩)
    · obtain ⟨rfl, rfl⟩ := only_is z
      exact ⟨hobj, ls, vs, _, rv, hobj⟩
    · refine only_ne fun z => ?_
      rw [z, hobj] at e
      cases e
      cases (show Data.seq vs.toArray _ = Data.dict es ep from d)
    · refine only_ne fun z => ?_
      rw [z, hk] at e
      cases e
end Ew
namespace Ew
open PySem PySem.Spec PyProof.Rows L2
/-! ### the text by places -/
def top (i : Nat) : Stmt := PySem.Challenge.pw_eachworkread_k05_rows_judged.main.body.getD i (.Pass ⟨0, 0, 0, 0⟩)
abbrev sFeed : Stmt := (top 24)
abbrev sTake : Stmt := (top 25)
abbrev sPick : Stmt := (top 26)
/-! ### promises -/
def spFeed (K : PySem.W.Frag) : Sp := fun vs H Q _ => ∃ (a : Addr) (ns : List Int) (k : Int), vs = [.ref a, .int k] ∧ SqL K H a (ns.map V.int) ∧ ns.length ≤ 63 ∧ 0 ≤ k ∧ k < 10 ∧
  ∀ H' p, Same H H' → H p = none → FeedAt H' p → Q (.ref p) H'
def spTake : Sp := fun vs H Q _ => ∃ (f : Addr) (m : Int), vs = [.ref f, .int m] ∧ FeedAt H f ∧ 0 < m ∧ m < 1000 ∧ ∀ H' r, Ext1 f H H' → 0 ≤ r → r < m → Q (.int r) H'
def spPick (K : PySem.W.Frag) : Sp := fun vs H Q _ => ∃ (f l : Addr) (xs : List V), vs = [.ref f, .ref l] ∧ FeedAt H f ∧ SqL K H l xs ∧ l ≠ f ∧ 0 < xs.length ∧ xs.length < 1000 ∧ ∀ H' v, Ext1 f H H' → v ∈ xs → Q v H'
section
variable {P : Program} {w : World} {K : PySem.W.Frag} {mg : Str → Option Value} {base : Heap}
theorem scFeed : FnScope ["script", "k", "seed", "digits"] ["script", "k"] (defScope sFeed) := ⟨rfl, rfl, rfl, by decide +kernel, rfl, by decide +kernel, by decide +kernel⟩
theorem cut_le (xs : List V) (a b : Option Int) : (cutV xs a b).length ≤ xs.length := by
  unfold cutV
  rw [List.length_take, List.length_drop]
  omega
theorem ok_feed {f : Addr} {fd : FuncData} (F : Fun K "_law_feed" "_law_feed" sFeed f fd) (B : Bi mg) : FnOk P w K mg base CX0 1 f fd ["script", "k"] (spFeed K) := by
  refine F.ok scFeed (fun vs H Q E h => ?_) (fun cdv A outer s H vs Q E hr h => ?_)
  · obtain ⟨a, ns, k, rfl, _⟩ := h
    rfl
  · obtain ⟨a, ns, k, rfl, hS, hl, h0, h10, q⟩ := h
    refine ⟨_, pss_cons (ps_set (i := 2) scFeed.nd rfl (.inl rfl)
        (pe_ix ix_list (pe_op op_cat (pe_callTy call_list_of (by rfl) B.list (by decide +kernel) (pa_cons (pe_slice sl_list (pv 0) (po_some (pv 1)) (po_some (pe_op op_add (pv 1) pe_int))) pa_nil))
          (pe_lst (pa_cons (pe_op op_add (pe_op op_mul pe_int (pv 1)) pe_int) pa_nil))) pe_int (fun _ _ => rfl)))
      (pss_cons (ps_set (i := 3) scFeed.nd rfl (.inl rfl) (pe_callB (call_max2 rfl) (by rfl) B.max (by decide +kernel) (pa_cons pe_int (pa_cons
          (pe_op op_sub (pe_callB call_abs (by rfl) B.abs (by decide +kernel) (pa_cons (pv 2) pa_nil)) (pe_op op_pow pe_int pe_int)) pa_nil))))
      (pss_one (ps_ret (pe_lst (pa_cons (pv 3) (pa_cons (pe_op op_mod (pe_callTy call_int1 (by rfl) B.int (by decide +kernel) (pa_cons
          (pe_op op_add (pe_op op_add (pe_op op_mul (pe_op op_mod (pe_callTy call_int1 (by rfl) B.int (by decide +kernel) (pa_cons (pe_callB call_abs (by rfl) B.abs (by decide +kernel) (pa_cons (pv 2) pa_nil)) pa_nil)) pe_int) pe_int)
            (pe_op op_mul pe_int (pv 1))) pe_int) pa_nil)) pe_int) pa_nil)))))), ?_⟩
    refine ⟨_, rfl, _, rfl, k, rfl, _, rfl, _, _, rfl, rfl, _, rfl, a, _, rfl, hS, fun c nc => ?_⟩
    have s1 : Same H (upd H c (.lst (cutV (ns.map V.int) (some k) (some (k + 1))))) := sameU nc
    have hc : (cutV (ns.map V.int) (some k) (some (k + 1))).length ≤ 63 := Nat.le_trans (cut_le _ _ _) (by rw [List.length_map]; exact hl)
    have hint : ∀ v ∈ cutV (ns.map V.int) (some k) (some (k + 1)), ∃ z, v = V.int z := by
      intro v hv
      unfold cutV at hv
      have := List.mem_of_mem_drop (List.mem_of_mem_take hv)
      obtain ⟨z, _, e⟩ := List.mem_map.mp this
      exact ⟨z, e.symm⟩
    generalize cutV (ns.map V.int) (some k) (some (k + 1)) = cs at *
    refine ⟨c, _, rfl, .inl (.inl (.inl upd_same)), fun l nl => ?_⟩
    refine ⟨_, rfl, 71, k, rfl, rfl, .inl ⟨by decide, by decide⟩, _, _, rfl, rfl, (by show 1 ≤ sizeLine; decide), fun m nm => ?_⟩
    have nlm : l ≠ m := fun e => by rw [e] at nm; rw [← e, upd_same] at nm; cases nm
    refine ⟨l, m, cs, _, rfl, rfl, (by rw [upd_ne nlm]; exact upd_same), upd_same, (szL (by show cs.length + 1 ≤ _; omega)), fun r nr => ?_⟩
    have sA : Same H (upd (upd (upd H c (.lst cs)) l (.lst cs)) m (.lst [V.int (71 * k + 23)])) := s1.trans ((sameU nl).trans (sameU nm))
    obtain ⟨z, hz⟩ : ∃ z, (cs ++ [V.int (71 * k + 23)])[0]? = some (V.int z) := by
      cases cs with
      | nil => exact ⟨_, rfl⟩
      | cons x t =>
        obtain ⟨z, e⟩ := hint x (by simp)
        exact ⟨z, by rw [e]; rfl⟩
    refine ⟨r, _, 0, _, rfl, rfl, .inl (.inl upd_same), atI_nat (j := 0) hz, ?_⟩
    have sB : Same H (upd (upd (upd (upd H c (.lst cs)) l (.lst cs)) m (.lst [V.int (71 * k + 23)])) r (.lst (cs ++ [V.int (71 * k + 23)]))) := sA.trans (sameU nr)
    generalize upd (upd (upd (upd H c (.lst cs)) l (.lst cs)) m (.lst [V.int (71 * k + 23)])) r (.lst (cs ++ [V.int (71 * k + 23)])) = H2 at *
    refine ⟨_, rfl, z, rfl, 10, 18, rfl, rfl, ⟨by decide, by decide, by decide⟩, _, _, rfl, rfl, _, _, rfl, ?_⟩
    refine ⟨_, rfl, _, rfl, z, rfl, .inl ⟨_, rfl, _, _, rfl, rfl, (by show (0 : Int) < 1000003; decide), _, _, rfl, rfl, .inr ⟨by decide, by decide⟩, _, rfl, 31, k, rfl, rfl, .inl ⟨by decide, by decide⟩, _, _, rfl, rfl, _, _, rfl, rfl, .inl ⟨_, rfl, _, _, rfl, rfl, (by show (0 : Int) < 1000033; decide), (by show 2 ≤ sizeLine; decide), fun p np => ?_⟩⟩⟩
    exact q _ p (sB.trans (sameU np)) (sB.free np) ⟨_, _, upd_same⟩
theorem scTake : FnScope ["feed", "many", "digit"] ["feed", "many"] (defScope sTake) := ⟨rfl, rfl, rfl, by decide +kernel, rfl, by decide +kernel, by decide +kernel⟩
theorem ok_take {f : Addr} {fd : FuncData} (F : Fun K "_law_take" "_law_take" sTake f fd) (B : Bi mg) : FnOk P w K mg base CX0 1 f fd ["feed", "many"] spTake := by
  refine F.ok scTake (fun vs H Q E h => ?_) (fun cdv A outer s H vs Q E hr h => ?_)
  · obtain ⟨a, m, rfl, _⟩ := h
    rfl
  · obtain ⟨a, m, rfl, ⟨d, z, hF⟩, m0, m1, q⟩ := h
    refine ⟨_, pss_cons (ps_if (pt_cmpR op_gt (pe_ix ix_list (pv 0) pe_int (fun _ _ => rfl)) pe_int (nomark _))
        (pss_cons (ps_set (i := 2) scTake.nd rfl (.inl rfl) (pe_op op_mod (pe_callTy call_int1 (by rfl) B.int (by decide +kernel) (pa_cons (pe_ix ix_list (pv 0) pe_int (fun _ _ => rfl)) pa_nil)) (pv 1)))
        (pss_cons (ps_asg (pe_op op_fdiv (pe_ix ix_list (pv 0) pe_int (fun _ _ => rfl)) (pv 1)) (pg_sub (pv 0) pe_int set_list)) (pss_one (ps_ret (pv 2))))) pss_nil)
      (pss_cons (ps_asg (pe_op op_mod (pe_callTy call_int1 (by rfl) B.int (by decide +kernel) (pa_cons (pe_op op_add (pe_op op_mul (pe_ix ix_list (pv 0) pe_int (fun _ _ => rfl)) pe_int) pe_int) pa_nil)) pe_int) (pg_sub (pv 0) pe_int set_list))
      (pss_one (ps_ret (pe_op op_mod (pe_callTy call_int1 (by rfl) B.int (by decide +kernel) (pa_cons (pe_op op_fdiv (pe_ix ix_list (pv 0) pe_int (fun _ _ => rfl)) pe_int) pa_nil)) (pv 1))))), ?_⟩
    refine ⟨_, rfl, a, _, 0, .int d, rfl, rfl, .inl (.inl hF), rfl, _, _, rfl, rfl, _, rfl, ite2 (fun _ => ?_) (fun _ => ?_)⟩
    · refine ⟨_, rfl, a, _, 0, .int d, rfl, rfl, .inl (.inl hF), rfl, .inl ⟨_, rfl, _, rfl, d, m, rfl, rfl, m0, ?_⟩⟩
      refine ⟨_, rfl, a, _, 0, .int d, rfl, rfl, .inl (.inl hF), rfl, _, rfl, d, m, rfl, rfl, ⟨m0, by omega⟩, _, rfl, a, _, 0, 0, rfl, rfl, hF, rfl, _, rfl, ?_⟩
      exact q _ _ Ext1.put (Int.emod_nonneg _ (by omega)) (Int.emod_lt_of_pos _ m0)
    · refine ⟨_, rfl, a, _, 1, .int z, rfl, rfl, .inl (.inl hF), rfl, z, 69069, rfl, rfl, .inr ⟨by decide, by decide⟩, _, _, rfl, rfl, .inl ⟨_, rfl, _, _, rfl, rfl, (by show (0 : Int) < 4294967311; decide), _, rfl, a, _, 1, 1, rfl, rfl, hF, rfl, ?_⟩⟩
      refine ⟨_, rfl, a, _, 1, _, rfl, rfl, .inl (.inl upd_same), rfl, _, 65536, rfl, rfl, ⟨by decide, by decide⟩, .inl ⟨_, rfl, _, rfl, _, m, rfl, rfl, m0, ?_⟩⟩
      exact q _ _ Ext1.put (Int.emod_nonneg _ (by omega)) (Int.emod_lt_of_pos _ m0)
theorem scPick : FnScope ["feed", "some"] ["feed", "some"] (defScope sPick) := ⟨rfl, rfl, rfl, by decide +kernel, rfl, by decide +kernel, by decide +kernel⟩
theorem ok_pick {f fT : Addr} {fd fdT : FuncData} (F : Fun K "_law_pick" "_law_pick" sPick f fd) (FT : Fun K "_law_take" "_law_take" sTake fT fdT) (bT : Binds K fdT ["feed", "many"] []) (gT : mg "_law_take" = some (.ref fT)) (B : Bi mg) : FnOk P w K mg base CX0 2 f fd ["feed", "some"] (spPick K) := by
  have GT : FnOk P w K mg base CX0 1 fT fdT ["feed", "many"] spTake := ok_take FT B
  refine F.ok scPick (fun vs H Q E h => ?_) (fun cdv A outer s H vs Q E hr h => ?_)
  · obtain ⟨a, l, xs, rfl, _⟩ := h
    rfl
  · obtain ⟨a, l, xs, rfl, hF, hL, nl, x0, x1, q⟩ := h
    refine ⟨_, pss_one (ps_ret (pe_ix ix_list (pv 1) (pe_call GT hr (by rfl) gT FT.kp bT .nil pass0 (pa_cons (pv 0) (pa_cons (pe_callB call_len_seq (by rfl) B.len PySem.boot_len (pa_cons (pv 1) pa_nil)) pa_nil))) (fun _ _ => rfl))), ?_⟩
    refine ⟨_, rfl, _, rfl, _, rfl, l, xs, rfl, .inl hL, a, _, rfl, hF, (by omega), (by omega), fun H1 r e1 r0 r1 => ?_⟩
    obtain ⟨j, rfl⟩ : ∃ j : Nat, r = (j : Int) := ⟨r.toNat, by omega⟩
    have hj : j < xs.length := by omega
    exact ⟨l, xs, (j : Int), xs[j], rfl, rfl, e1.sqL nl hL, atI_nat (by simp [hj]), q _ _ e1 (List.getElem_mem _)⟩
end
end Ew
namespace Ew
open PySem PySem.Spec PyProof.Rows L2
abbrev sRow : Stmt := (top 27)
def spRow (K : PySem.W.Frag) : Sp := fun vs H Q _ => ∃ (f : Addr) (v : V) (r : Int × List Int), vs = [.ref f, v] ∧ FeedAt H f ∧ RdT K H v r ∧ 0 ≤ r.1 ∧ r.1 ≤ 6 ∧ r.2.Pairwise (· < ·) ∧ r.2.length ≤ 60 ∧
  ∀ H' p w, Ext1 f H H' → H p = none → H' p = some (.tup (w.map V.int)) → RowOk r w → Q (.ref p) H'
theorem perm_get {α : Type} {rs : List α} {k : Nat} (h : k < rs.length) : rs.Perm (rs[k] :: rs.eraseIdx k) := by
  induction rs generalizing k with
  | nil => simp at h
  | cons a l ih =>
    cases k with
    | zero => simp
    | succ k =>
      have h' : k < l.length := by simpa using h
      have := ih h'
      simp only [List.getElem_cons_succ, List.eraseIdx_cons_succ]
      exact ((List.Perm.cons a this).trans (List.Perm.swap _ _ _))
theorem map_eraseIdx' {α β : Type} (g : α → β) : ∀ (l : List α) (k : Nat), (l.map g).eraseIdx k = (l.eraseIdx k).map g
  | [], _ => by simp
  | a :: l, 0 => by simp
  | a :: l, k + 1 => by simp [map_eraseIdx' g l k]
theorem lt_of_le_nodup {l : List Int} (h : l.Pairwise (· ≤ ·)) (n : l.Nodup) : l.Pairwise (· < ·) := by
  have n' : l.Pairwise (· ≠ ·) := n
  have := h.and n'
  exact this.imp fun ⟨h1, h2⟩ => by omega
section
variable {P : Program} {w : World} {K : PySem.W.Frag} {mg : Str → Option Value} {base : Heap}
theorem scRow : FnScope ["feed", "reader", "limit", "may", "rest", "found", "turn"] ["feed", "reader"] (defScope sRow) := ⟨rfl, rfl, rfl, by decide +kernel, rfl, by decide +kernel, by decide +kernel⟩
theorem ok_row {f fT : Addr} {fd fdT : FuncData} (F : Fun K "_law_row" "_law_row" sRow f fd) (FT : Fun K "_law_take" "_law_take" sTake fT fdT) (bT : Binds K fdT ["feed", "many"] []) (gT : mg "_law_take" = some (.ref fT)) (B : Bi mg) :
    FnOk P w K mg base CX0 2 f fd ["feed", "reader"] (spRow K) := by
  have GT : FnOk P w K mg base CX0 1 fT fdT ["feed", "many"] spTake := ok_take FT B
  refine F.ok scRow (fun vs H Q E h => ?_) (fun cdv A outer s H vs Q E hr h => ?_)
  · obtain ⟨a, v, r, rfl, _⟩ := h
    rfl
  · obtain ⟨a, v, ⟨lim, may⟩, rfl, hF, ⟨t, m, rfl, hT, hM⟩, l0, l6, hp, hlen, q⟩ := h
    replace hlen : may.length ≤ 60 := hlen
    replace l0 : 0 ≤ lim := l0
    replace l6 : lim ≤ 6 := l6
    replace hp : may.Pairwise (· < ·) := hp
    refine ⟨_, pss_cons (ps_asg (pv 1) (pg_tup (by rfl) (pgs_cons (pg_name (i := 2) scRow.nd rfl (.inl rfl)) (pgs_cons (pg_name (i := 3) scRow.nd rfl (.inl rfl)) pgs_nil))))
      (pss_cons (ps_par (i := 4) (j := 5) (by rfl) scRow.nd rfl rfl (by decide) rfl rfl (pa_cons (pe_callTy call_list_of (by rfl) B.list (by decide +kernel) (pa_cons (pv 3) pa_nil)) (pa_cons (pe_lst pa_nil) pa_nil)) (by rfl))
      (pss_cons (ps_for PassesOwn.never rfl (pi_range1 rfl B.range (pa_cons (pe_call GT hr (by rfl) gT FT.kp bT .nil pass0 (pa_cons (pv 0) (pa_cons (pe_op op_add pe_int (pe_callB (call_min2 rfl) (by rfl) B.min (by decide +kernel) (pa_cons (pv 2) (pa_cons (pe_callB call_len_seq (by rfl) B.len PySem.boot_len (pa_cons (pv 3) pa_nil)) pa_nil)))) pa_nil))) pa_nil))
          (pg_name (i := 6) scRow.nd rfl (.inl rfl))
          (pss_one (ps_expr (pe_bm PySem.F.plainAttrs_list PySem.F.slot_list_append PySem.F.type_list_append mt_append (pv 5) (pa_cons
            (pe_bm PySem.F.plainAttrs_list PySem.F.slot_list_pop PySem.F.type_list_pop mt_popAt (pv 4) (pa_cons (pe_call GT hr (by rfl) gT FT.kp bT .nil pass0 (pa_cons (pv 0) (pa_cons (pe_callB call_len_seq (by rfl) B.len PySem.boot_len (pa_cons (pv 4) pa_nil)) pa_nil))) pa_nil)) pa_nil)))))
      (pss_one (ps_ret (pe_callTy call_tuple_of (by rfl) B.tuple (by decide +kernel) (pa_cons (pe_callB cr_sorted (by rfl) B.sorted (by decide +kernel) (pa_cons (pv 5) pa_nil)) pa_nil)))))), ?_⟩
    -- limit, may = reader
    refine ⟨_, rfl, t, _, rfl, hT, rfl, _, _, rfl, _, _, rfl, rfl, ?_⟩
    -- rest, found
    refine ⟨_, rfl, m, _, rfl, .inr hM, fun R nR => ⟨Nat.zero_le _, fun Fd nFd => ⟨_, _, rfl, ?_⟩⟩⟩
    have nFd0 : H Fd = none := (sameU nR).free nFd
    have nFR : Fd ≠ R := fun e => by rw [e, upd_same] at nFd; cases nFd
    have e0 : Ext1 a H (upd (upd H R (.lst (may.map V.int))) Fd (.lst [])) := Ext1.new (Ext1.new (.refl hF) nR) nFd
    have fR : R ≠ a := hF.ne nR
    have fF : Fd ≠ a := hF.ne nFd0
    -- range(take(feed, 1 + min(limit, len(may))))
    refine ⟨_, rfl, _, rfl, _, rfl, m, _, rfl, .inr (e0.sqT hF hM), lim, _, rfl, _, _, rfl, rfl, a, _, rfl, e0.feed, ?_, ?_, fun H1 n e1 n0 n1 => ?_⟩
    · rw [List.length_map]; split <;> omega
    · rw [List.length_map]; split <;> omega
    rw [List.length_map] at n1
    replace n1 : n < 1 + (if (may.length : Int) < lim then (may.length : Int) else lim) := n1
    have n2 : n ≤ lim ∧ n ≤ may.length := by split at n1 <;> omega
    refine ⟨n, rfl, by omega, by omega, for_range (lo := 0) (n := n.toNat) (fun i σ H' => ∃ (rs fs : List Int) (y : Option V), σ = [some (.ref a), some (.ref t), some (.int lim), some (.ref m), some (.ref R), some (.ref Fd), y] ∧ (fs ++ rs).Perm may ∧ fs.length = i ∧
        H' R = some (.lst (rs.map V.int)) ∧ H' Fd = some (.lst (fs.map V.int)) ∧ Ext1 a H H') ⟨may, [], none, rfl, List.Perm.refl _, rfl, ?_, ?_, e0.trans e1⟩ ?_ ?_⟩
    · exact e1.1 _ _ fR (by rw [upd_ne nFR.symm]; exact upd_same)
    · exact e1.1 _ _ fF upd_same
    · rintro i σ H' hi ⟨rs, fs, y, rfl, pm, hl, hR, hFd, ex⟩
      have hsz : fs.length + rs.length = may.length := by rw [← List.length_append]; exact pm.length_eq
      refine ⟨_, rfl, .inl ⟨rfl, _, .inl (.inl hFd)⟩, ?_⟩
      refine ⟨_, rfl, .inl ⟨rfl, _, .inl (.inl hR)⟩, _, rfl, _, rfl, R, _, rfl, .inl (.inl (.inl hR)), a, _, rfl, ex.feed, by rw [List.length_map]; omega, by rw [List.length_map]; omega, fun H2 k e2 k0 k1 => ?_⟩
      rw [List.length_map] at k1
      have hR2 := e2.1 _ _ fR hR
      have hF2 := e2.1 _ _ fF hFd
      obtain ⟨j, rfl⟩ : ∃ j : Nat, k = (j : Int) := ⟨k.toNat, by omega⟩
      have hj : j < rs.length := by omega
      refine ⟨R, _, (j : Int), j, .int rs[j], rfl, rfl, hR2, by omega, by omega, ?_, by simp [hj], ?_⟩
      · rw [List.length_map]
        unfold seqIndex?
        simp
        omega
      · refine ⟨Fd, _, _, rfl, rfl, (by rw [upd_ne nFR]; exact hF2), szl (by rw [List.length_map]; omega), ?_⟩
        refine ⟨rs.eraseIdx j, fs ++ [rs[j]], some (.int (0 + (i : Int))), rfl, ?_, by simp [hl], ?_, ?_, ?_⟩
        · rw [List.append_assoc]
          exact (List.Perm.append_left fs (perm_get hj).symm).trans pm
        · rw [upd_ne nFR.symm, upd_same, map_eraseIdx']
        · rw [upd_same, List.map_append]
          rfl
        · exact ((ex.trans e2).own nR fR).own nFd0 fF
    · rintro σ H' ⟨rs, fs, y, rfl, pm, hl, hR, hFd, ex⟩
      have nd : may.Nodup := hp.imp fun h => by omega
      have hsz : fs.length + rs.length = may.length := by rw [← List.length_append]; exact pm.length_eq
      refine ⟨_, rfl, Fd, fs, rfl, .inl (.inl hFd), by omega, fun ns' p pm2 so np => ⟨p, _, rfl, .inl ⟨.inl (.inl upd_same), fun l nl => ?_⟩⟩⟩
      have ex2 : Ext1 a H (upd (upd H' p (.lst (ns'.map V.int))) l (.tup (ns'.map V.int))) := (ex.new np).new nl
      refine q _ l ns' ex2 ((ex.new np).free nl) upd_same ⟨?_, ?_, ?_⟩
      · have : (fs ++ rs).Nodup := pm.nodup_iff.mpr nd
        have nf : fs.Nodup := (List.nodup_append.mp this).1
        exact lt_of_le_nodup so (pm2.nodup_iff.mpr nf)
      · intro x hx
        exact pm.mem_iff.mp (List.mem_append_left _ (pm2.mem_iff.mp hx))
      · rw [pm2.length_eq, hl]
        show ((n.toNat : Nat) : Int) ≤ lim
        omega
end
end Ew
namespace Ew
open PySem PySem.Spec PyProof.Rows L2
abbrev sRows : Stmt := (top 28)
abbrev sTimes : Stmt := (top 29)
def RdsOk (rs : List (Int × List Int)) : Prop := ∀ r ∈ rs, 0 ≤ r.1 ∧ r.1 ≤ 6 ∧ r.2.Pairwise (· < ·) ∧ r.2.length ≤ 60
def spRows (K : PySem.W.Frag) : Sp := fun vs H Q _ => ∃ (f R ab : Addr) (rs : List (Int × List Int)) (as : List Int), vs = [.ref f, .ref R, .ref ab] ∧ FeedAt H f ∧ R ≠ f ∧ RdL K H R rs ∧ RdsOk rs ∧ rs.length ≤ 60 ∧ SqT K H ab (as.map V.int) ∧
  ∀ H' p vs ws, Ext1 f H H' → H p = none → H' p = some (.lst vs) → Paired (RowT K H') vs ws → Paired RowOk rs ws → (∀ i w, ws[i]? = some w → ((i : Nat) : Int) ∈ as → w = []) → Q (.ref p) H'
theorem flat_ints (l : List Int) : (l.map V.int).all flatV = true := by
  rw [List.all_map]
  exact List.all_eq_true.mpr fun _ _ => rfl
theorem inV_int (i : Int) (l : List Int) : inV (.int i) (l.map V.int) = decide (i ∈ l) := by
  unfold inV
  rw [List.any_map]
  induction l with
  | nil => rfl
  | cons a l ih =>
    rw [List.any_cons, ih]
    have e : ((fun y => eqV y (V.int i)) ∘ V.int) a = decide (a = i) := by
      show eqV (V.int a) (V.int i) = _
      by_cases h : a = i
      · subst h
        simp [eqV]
      · simp [eqV, h]
    rw [e]
    by_cases h : a = i
    · subst h; simp
    · have h' : ¬ i = a := fun e => h e.symm
      simp [h, h']
theorem Paired.len {α β : Type} {R : α → β → Prop} : ∀ {xs : List α} {ys : List β}, Paired R xs ys → xs.length = ys.length
  | _, _, .nil => rfl
  | _, _, .cons _ t => by simp [Paired.len t]
theorem Paired.take {α β : Type} {R : α → β → Prop} : ∀ {xs : List α} {ys : List β} (n : Nat), Paired R xs ys → Paired R (xs.take n) (ys.take n)
  | _, _, 0, _ => .nil
  | _, _, _ + 1, .nil => .nil
  | _, _, n + 1, .cons r t => .cons r (Paired.take n t)
section
variable {P : Program} {w : World} {K : PySem.W.Frag} {mg : Str → Option Value} {base : Heap}
theorem scRows : FnScope ["feed", "readers", "absent", "at", "reader"] ["feed", "readers", "absent"] (defScope sRows) := ⟨rfl, rfl, rfl, by decide +kernel, rfl, by decide +kernel, by decide +kernel⟩
theorem ok_rows {f fT fR : Addr} {fd fdT fdR : FuncData} (F : Fun K "_law_rows" "_law_rows" sRows f fd) (FT : Fun K "_law_take" "_law_take" sTake fT fdT) (bT : Binds K fdT ["feed", "many"] []) (gT : mg "_law_take" = some (.ref fT))
    (FR : Fun K "_law_row" "_law_row" sRow fR fdR) (bR : Binds K fdR ["feed", "reader"] []) (gR : mg "_law_row" = some (.ref fR)) (B : Bi mg) :
    FnOk P w K mg base CX0 3 f fd ["feed", "readers", "absent"] (spRows K) := by
  have GR : FnOk P w K mg base CX0 2 fR fdR ["feed", "reader"] (spRow K) := ok_row FR FT bT gT B
  refine F.ok scRows (fun vs H Q E h => ?_) (fun cdv A outer s H vs Q E hr h => ?_)
  · obtain ⟨a, R, ab, rs, as, rfl, _⟩ := h
    rfl
  · obtain ⟨a, R, ab, rs, as, rfl, hF, nR, ⟨us, hL, hP⟩, hok, hlen, hA, q⟩ := h
    refine ⟨_, pss_one (ps_ret (pe_lc (own := [("at", 3), ("reader", 4)]) (g := gTup K 2 (gCons (gName 3) (gCons (gName 4) gNil))) (tt := tYes) (te := tIf (tTest (tOp (rIn K false) (tVar 3) (tVar 2))) (tTup tNil) (tCall (spRow K) [] E0 (tCons (tVar 0) (tCons (tVar 4) tNil)))) rfl scRows.nd (pi_enum (by rfl) B.enumerate (pa_cons (pv 1) pa_nil)) (blkOk_by (own := [("at", 3), ("reader", 4)]) (N := ["feed", "readers", "absent", "at", "reader"]) (sc := defScope sRows) (by decide +kernel))
      (fun _ _ _ _ _ => pg_tup (by rfl) (pgs_cons (pg_name (i := 3) scRows.nd rfl (.inl rfl)) (pgs_cons (pg_name (i := 4) scRows.nd rfl (.inl rfl)) pgs_nil))) (fun _ _ _ _ _ => pts_nil)
      (fun _ _ _ _ _ => pe_ifExp (pt_cmpR op_in_seq (pv 3) (pv 2) (by rfl)) (pe_tup pa_nil) (pe_call GR hr (by rfl) gR FR.kp bR .nil pass0 (pa_cons (pv 0) (pa_cons (pv 4) pa_nil)))))), ?_⟩
    refine ⟨_, rfl, R, us, rfl, hL, fun D nD => ?_⟩
    have fD : D ≠ a := hF.ne nD
    refine lc_it (walk_enum (xs := us)) (fun i H' => ∃ (vs : List V) (ws : List (List Int)), Ext1 a H H' ∧ H' D = some (.lst vs) ∧ Paired (RowT K H') vs ws ∧ Paired RowOk (rs.take i) ws ∧ (∀ i w, ws[i]? = some w → ((i : Nat) : Int) ∈ as → w = []))
      ⟨[], [], (Ext1.refl hF).new nD, upd_same, .nil, .nil, fun i w e => by simp at e⟩ (fun i H' _ ⟨_, _, e, _⟩ => e.sqL nR hL) ?_ ?_
    · rintro i x H1 H2 hi ⟨vs, ws, e1, hD, p1, p2, p3⟩ ⟨T, x1, x2, rfl, nT, rfl, f1, f2⟩
      obtain ⟨r, hr2, rd⟩ := Paired.at1 hP f2
      have eT : Ext1 a H (upd H1 T (.tup [x1, x2])) := e1.new nT
      have sT : Same H1 (upd H1 T (.tup [x1, x2])) := sameU nT
      obtain rfl : V.int (i : Nat) = x1 := Option.some.inj f1
      refine ⟨T, _, rfl, .inl (.inl upd_same), rfl, _, _, rfl, _, _, rfl, rfl, rfl, ?_⟩
      have hlw : ws.length = i := by
        rw [← Paired.len p2, List.length_take]
        have := Paired.len hP
        omega
      have hlv : vs.length = i := by rw [Paired.len p1]; exact hlw
      have hil : i < 60 := by have := Paired.len hP; omega
      have hrm : r ∈ rs := List.mem_of_getElem? hr2
      obtain ⟨g1, g2, g3, g4⟩ := hok r hrm
      dsimp only [tYes]
      refine iteT ?_
      refine ⟨_, rfl, _, rfl, ab, _, rfl, .inr (eT.sqT hF hA), rfl, flat_ints as, _, rfl, ?_⟩
      have step : ∀ (H3 : Hp) (p : Addr) (w : List Int), Same (upd H1 T (.tup [V.int (i : Nat), x2])) H3 ∨ Ext1 a (upd H1 T (.tup [V.int (i : Nat), x2])) H3 → H3 p = some (.tup (w.map V.int)) → RowOk r w → (((i : Nat) : Int) ∈ as → w = []) →
          ∃ acc, H3 D = some (.lst acc) ∧ acc.length < sizeLine ∧ ∃ (vs : List V) (ws : List (List Int)), Ext1 a H (upd H3 D (.lst (acc ++ [.ref p]))) ∧ (upd H3 D (.lst (acc ++ [.ref p]))) D = some (.lst vs) ∧ Paired (RowT K (upd H3 D (.lst (acc ++ [.ref p])))) vs ws ∧ Paired RowOk (rs.take (i + 1)) ws ∧ (∀ i w, ws[i]? = some w → ((i : Nat) : Int) ∈ as → w = []) := by
        intro H3 p w hs hp ro hw
        have e3 : Ext1 a (upd H1 T (.tup [V.int (i : Nat), x2])) H3 := by
          rcases hs with hs | hs
          · exact .same eT.feed hs
          · exact hs
        have hD3 : H3 D = some (.lst vs) := e3.1 _ _ fD (sT _ _ hD)
        have hP3 : RowT K H3 (.ref p) w := ⟨p, rfl, .inl (.inl hp)⟩
        refine ⟨vs, hD3, szl (by omega), vs ++ [.ref p], ws ++ [w], (eT.trans e3).own nD fD, upd_same, ?_, ?_, ?_⟩
        · exact Paired.snoc (L2.Paired.mapP p1 fun _ _ z => RowT.upd hD3 ((z.same sT).ext e3 eT.feed)) (RowT.upd hD3 hP3)
        · rw [take_more hr2]
          exact Paired.snoc p2 ro
        · intro i' w' he hm
          rcases Nat.lt_or_ge i' ws.length with h | h
          · rw [List.getElem?_append_left h] at he
            exact p3 _ _ he hm
          · rw [List.getElem?_append_right h] at he
            have h0 : i' - ws.length = 0 := by
              cases hz : i' - ws.length with
              | zero => rfl
              | succ n => rw [hz] at he; simp at he
            rw [h0] at he
            have : w = w' := by simpa using he
            subst this
            have : i' = i := by omega
            subst this
            exact hw hm
      by_cases hin : ((i : Nat) : Int) ∈ as
      · have e : inV (V.int (i : Nat)) (as.map V.int) = true := by rw [inV_int]; exact decide_eq_true hin
        rw [e]
        refine iteT ⟨Nat.zero_le _, fun p np => ?_⟩
        exact step _ p [] (.inl (sameU np)) upd_same ⟨.nil, fun x hx => by simp at hx, by simpa using g1⟩ fun _ => rfl
      · have e : inV (V.int (i : Nat)) (as.map V.int) = false := by rw [inV_int]; exact decide_eq_false hin
        rw [e]
        refine iteF ⟨_, rfl, _, rfl, a, x2, r, rfl, eT.feed, (rd.ext eT hF), g1, g2, g3, g4, fun H3 p w e3 np hp ro => ?_⟩
        exact step _ p w (.inr e3) hp ro fun h => absurd h hin
    · rintro H' ⟨vs, ws, e1, hD, p1, p2, p3⟩
      rw [Paired.len hP, List.take_length] at p2
      exact q H' D vs ws e1 nD hD p1 p2 p3
end
end Ew
namespace Ew
open PySem PySem.Spec PyProof.Rows L2
/-- the scope of the comprehension that a def returns -/
def retScope (s : Stmt) : Scope := match defBody s with
  | [.Return (some (.ListComp _ _ sc _)) _] => sc
  | _ => { kind := .function, names := [], isGenerator := false, isCoroutine := false }
def times (ws : List (List Int)) (n : Nat) : List Int := (List.range n).map fun (k : Nat) => ((ws.filter fun r => decide (((k : Nat) : Int) ∈ r)).length : Int)
def spTimes (K : PySem.W.Frag) : Sp := fun vs H Q _ => ∃ (R : Addr) (us : List V) (ws : List (List Int)) (n : Nat), vs = [.ref R, .int n] ∧ SqL K H R us ∧ Paired (RowT K H) us ws ∧ ws.length ≤ 60 ∧ n ≤ 60 ∧
  ∀ H' p, Same H H' → H p = none → H' p = some (.lst ((times ws n).map V.int)) → Q (.ref p) H'
section
variable {P : Program} {w : World} {K : PySem.W.Frag} {mg : Str → Option Value} {base : Heap}
theorem scTimes : FnScope ["rows", "works", "work", "row"] ["rows", "works"] (defScope sTimes) := ⟨rfl, rfl, rfl, by decide +kernel, rfl, by decide +kernel, by decide +kernel⟩
theorem filter_take_snoc {α : Type} (g : α → Bool) {l : List α} {i : Nat} {x : α} (h : l[i]? = some x) : (l.take (i + 1)).filter g = (l.take i).filter g ++ (if g x = true then [x] else []) := by
  rw [take_more h, List.filter_append]
  by_cases e : g x = true
  · rw [if_pos e]; simp [e]
  · rw [if_neg e]; simp [e]
theorem same_own {H H1 : Hp} {D : Addr} {o : HO} (s : Same H H1) (n : H D = none) : Same H (upd H1 D o) := fun b u e => by
  rw [upd_ne (ne_of_none e n)]
  exact s _ _ e
theorem ok_times {f : Addr} {fd : FuncData} (F : Fun K "_law_times" "_law_times" sTimes f fd) (B : Bi mg) : FnOk P w K mg base CX0 1 f fd ["rows", "works"] (spTimes K) := by
  refine F.ok scTimes (fun vs H Q E h => ?_) (fun cdv A outer s H vs Q E hr h => ?_)
  · obtain ⟨R, us, ws, n, rfl, _⟩ := h
    rfl
  · obtain ⟨R, us, ws, n, rfl, hL, hP, hlen, hn, q⟩ := h
    refine ⟨_, pss_one (ps_ret (pe_lc (own := [("work", 2)]) (g := gName 2) (tt := tYes)
      (te := tCB (fun xs H Q => ∃ p ys, xs = [.ref p] ∧ (SqL K H p ys ∨ SqT K H p ys) ∧ Q (.int ys.length) H) (tCons (tLc (iList K (tVar 0)) (gName 3) (tTest (tOp (rIn K false) (tVar 2) (tVar 3))) (tVar 3) [3]) tNil))
      rfl scTimes.nd (pi_range1 rfl B.range (pa_cons (pv 1) pa_nil)) (blkOk_by (own := [("work", 2)]) (N := ["rows", "works", "work", "row"]) (sc := defScope sTimes) (by decide +kernel))
      (fun _ _ _ _ _ => pg_name (i := 2) scTimes.nd rfl (.inr rfl)) (fun _ _ _ _ _ => pts_nil)
      (fun _ _ _ _ _ => pe_callB call_len_seq (by rfl) B.len PySem.boot_len (pa_cons
        (pe_lc (own := [("row", 3)]) (g := gName 3) (tt := tTest (tOp (rIn K false) (tVar 2) (tVar 3))) (te := tVar 3) rfl scTimes.nd (pi_list (pv 0)) (blkOk_by (own := [("row", 3)]) (N := ["rows", "works", "work", "row"]) (sc := relS (retScope sTimes) (defScope sTimes)) (by decide +kernel))
          (fun _ _ _ _ _ => pg_name (i := 3) scTimes.nd rfl (.inl rfl)) (fun _ _ _ _ _ => pts_one (pt_cmpR op_in_seq (pv 2) (pv 3) (by rfl))) (fun _ _ _ _ _ => pv 3)) pa_nil)))), ?_⟩
    have tk : ∀ i, i < n → (times ws n)[i]? = some (((ws.filter fun r => decide (((i : Nat) : Int) ∈ r)).length : Nat) : Int) := fun i hi => by
      unfold times
      rw [List.getElem?_map, List.getElem?_range hi]
      rfl
    have tl : (times ws n).length = n := by
      unfold times
      rw [List.length_map, List.length_range]
    refine ⟨_, rfl, n, rfl, by omega, by omega, fun D nD => ?_⟩
    refine lc_range (lo := 0) (n := ((n : Nat) : Int).toNat) (fun i H' => Same H H' ∧ H' D = some (.lst (((times ws n).take i).map V.int))) ⟨sameU nD, upd_same⟩ ?_ ?_
    · rintro i H1 hi ⟨s1, hD⟩
      have hi' : i < n := by simpa using hi
      refine ⟨rfl, ?_⟩
      dsimp only [tYes]
      refine iteT ?_
      refine ⟨_, rfl, R, rfl, ⟨_, s1.seq hL⟩, fun D2 nD2 => ?_⟩
      refine lc_list (K := K) (a := R) (xs := us) (fun j H' => ∃ vs, Same H1 H' ∧ H' D2 = some (.lst vs) ∧ vs.length = ((ws.take j).filter fun r => decide (((i : Nat) : Int) ∈ r)).length) ⟨[], sameU nD2, upd_same, rfl⟩ (fun j H' _ ⟨_, e, _⟩ => e.seq (s1.seq hL)) ?_ ?_
      · rintro j x H2 hx ⟨vs, s2, hD2, el⟩
        obtain ⟨r, hr2, t, rfl, hT⟩ := Paired.at1 hP hx
        have hT2 : SqT K H2 t (r.map V.int) := sameT s2 (sameT s1 hT)
        refine ⟨rfl, _, rfl, _, rfl, t, _, rfl, .inr hT2, rfl, flat_ints r, _, rfl, ?_⟩
        have ez : (0 : Int) + ((i : Nat) : Int) = ((i : Nat) : Int) := Int.zero_add _
        rw [ez, if_neg Bool.false_ne_true, inV_int]
        have st := filter_take_snoc (fun r => decide (((i : Nat) : Int) ∈ r)) hr2
        have hvl : vs.length ≤ 60 := by
          rw [el]
          refine Nat.le_trans (List.length_filter_le _ _) ?_
          rw [List.length_take]; omega
        refine ite2 (fun c => ?_) (fun c => ?_)
        · refine ⟨_, rfl, vs, hD2, szl (by omega), vs ++ [.ref t], same_own s2 nD2, upd_same, ?_⟩
          rw [st, if_pos c, List.length_append, List.length_append, el]
          rfl
        · refine ⟨vs, s2, hD2, ?_⟩
          rw [st, if_neg c, List.append_nil]
          exact el
      · rintro H2 ⟨vs, s2, hD2, el⟩
        have nd : D ≠ D2 := ne_of_none hD nD2
        refine ⟨D2, vs, rfl, .inl (.inl (.inl hD2)), _, s2 _ _ hD, szl (by rw [List.length_map, List.length_take]; omega), same_own (s1.trans s2) nD, ?_⟩
        have el' : vs.length = (ws.filter fun r => decide (((i : Nat) : Int) ∈ r)).length := by
          rw [el, Paired.len hP, List.take_length]
        rw [upd_same, take_more (tk i hi'), List.map_append, el']
        rfl
    · rintro H' ⟨s1, hD⟩
      refine q H' D s1 nD ?_
      rw [hD]
      rw [List.take_of_length_le (by rw [tl]; exact Nat.le_of_eq (Int.toNat_natCast n).symm)]
end
end Ew
namespace Ew
open PySem PySem.Spec PyProof.Rows L2
abbrev sBook : Stmt := (top 30)
def RdsAt (n : Int) (rs : List (Int × List Int)) : Prop := ∀ r ∈ rs, RdOk n r
/-- the demands at A, the readers at R -/
structure BookAt (K : PySem.W.Frag) (H : Hp) (A R : Addr) (ds : List Int) (us : List V) (rs : List (Int × List Int)) : Prop where
  dem : H A = some (.lst (ds.map V.int))
  rd : H R = some (.lst us)
  rds : Paired (RdT K H) us rs
  n1 : 1 ≤ ds.length
  n6 : ds.length ≤ 6
  d6 : ∀ d ∈ ds, 0 ≤ d ∧ d ≤ 6
  r6 : rs.length ≤ 6
  ok : RdsAt ds.length rs
  ne : A ≠ R
def spBook (K : PySem.W.Frag) : Sp := fun vs H Q _ => ∃ (f : Addr) (mw mr : Int), vs = [.ref f, .int mw, .int mr] ∧ FeedAt H f ∧ 1 ≤ mw ∧ mw ≤ 6 ∧ 0 ≤ mr ∧ mr ≤ 6 ∧
  ∀ H' p A R ds us rs, Ext1 f H H' → H p = none → H A = none → H R = none → H' p = some (.lst [.ref A, .ref R]) → BookAt K H' A R ds us rs → p ≠ A → p ≠ R → ds.length ≤ mw → rs.length ≤ mr → Q (.ref p) H'
theorem mem_map_int {v : V} {l : List Int} (h : v ∈ l.map V.int) : ∃ i, v = .int i ∧ i ∈ l := by
  obtain ⟨i, h1, h2⟩ := List.mem_map.mp h
  exact ⟨i, h2.symm, h1⟩
theorem asc_len : ∀ {l : List Int} {lo n : Int}, l.Pairwise (· < ·) → (∀ x ∈ l, lo ≤ x ∧ x < n) → lo ≤ n → (l.length : Int) ≤ n - lo
  | [], lo, n, _, _, h => by simp; omega
  | x :: l, lo, n, hp, hb, h => by
    have hx := hb x (by simp)
    have hp' := List.pairwise_cons.mp hp
    have := asc_len (l := l) (lo := x + 1) (n := n) hp'.2 (fun y hy => ⟨by have := hp'.1 y hy; omega, (hb y (by simp [hy])).2⟩) (by omega)
    simp only [List.length_cons]
    omega
theorem Asc.len {n : Int} {l : List Int} (h : Asc n l) (hn : 0 ≤ n) : (l.length : Int) ≤ n := by
  have := asc_len h.1 h.2 hn
  omega
theorem rdsOk_of {n : Int} {rs : List (Int × List Int)} (h : RdsAt n rs) (h0 : 0 ≤ n) (h6 : n ≤ 6) : RdsOk rs := fun r hr => by
  obtain ⟨a, b, c⟩ := h r hr
  have := c.len h0
  exact ⟨a, b, c.1, by omega⟩
theorem times_len (ws : List (List Int)) (n : Nat) : (times ws n).length = n := by
  unfold times
  rw [List.length_map, List.length_range]
theorem times_le (ws : List (List Int)) (n : Nat) : ∀ d ∈ times ws n, 0 ≤ d ∧ d ≤ (ws.length : Int) := by
  intro d hd
  unfold times at hd
  obtain ⟨k, _, rfl⟩ := List.mem_map.mp hd
  have := List.length_filter_le (fun r => decide (((k : Nat) : Int) ∈ r)) ws
  omega
section
variable {P : Program} {w : World} {K : PySem.W.Frag} {mg : Str → Option Value} {base : Heap}
/-- what stands of the law's small defs -/
structure Low (K : PySem.W.Frag) (mg : Str → Option Value) : Prop where
  bi : Bi mg
  feed : ∃ f fd, Fun K "_law_feed" "_law_feed" sFeed f fd ∧ Binds K fd ["script", "k"] [] ∧ mg "_law_feed" = some (.ref f)
  take : ∃ f fd, Fun K "_law_take" "_law_take" sTake f fd ∧ Binds K fd ["feed", "many"] [] ∧ mg "_law_take" = some (.ref f)
  pick : ∃ f fd, Fun K "_law_pick" "_law_pick" sPick f fd ∧ Binds K fd ["feed", "some"] [] ∧ mg "_law_pick" = some (.ref f)
  row : ∃ f fd, Fun K "_law_row" "_law_row" sRow f fd ∧ Binds K fd ["feed", "reader"] [] ∧ mg "_law_row" = some (.ref f)
  rows : ∃ f fd, Fun K "_law_rows" "_law_rows" sRows f fd ∧ Binds K fd ["feed", "readers", "absent"] [] ∧ mg "_law_rows" = some (.ref f)
  times : ∃ f fd, Fun K "_law_times" "_law_times" sTimes f fd ∧ Binds K fd ["rows", "works"] [] ∧ mg "_law_times" = some (.ref f)
  book : ∃ f fd, Fun K "_law_book" "_law_book" sBook f fd ∧ Binds K fd ["feed", "most_works", "most_readers"] [] ∧ mg "_law_book" = some (.ref f)
theorem scBook : FnScope ["feed", "most_works", "most_readers", "works", "readers", "wide", "turn", "may", "work", "demands"] ["feed", "most_works", "most_readers"] (defScope sBook) := ⟨rfl, rfl, rfl, by decide +kernel, rfl, by decide +kernel, by decide +kernel⟩
theorem ok_book {f : Addr} {fd : FuncData} (F : Fun K "_law_book" "_law_book" sBook f fd) (L : Low K mg) : FnOk P w K mg base CX0 4 f fd ["feed", "most_works", "most_readers"] (spBook K) := by
  obtain ⟨B, _, ⟨fT, fdT, FT, bT, gT⟩, ⟨fP, fdP, FP, bP, gP⟩, ⟨fR, fdR, FR, bR, gR⟩, ⟨fS, fdS, FS, bS, gS⟩, ⟨fM, fdM, FM, bM, gM⟩, _⟩ := L
  have GT : FnOk P w K mg base CX0 1 fT fdT ["feed", "many"] spTake := ok_take FT B
  have GP : FnOk P w K mg base CX0 2 fP fdP ["feed", "some"] (spPick K) := ok_pick FP FT bT gT B
  have GS : FnOk P w K mg base CX0 3 fS fdS ["feed", "readers", "absent"] (spRows K) := ok_rows FS FT bT gT FR bR gR B
  have GM : FnOk P w K mg base CX0 1 fM fdM ["rows", "works"] (spTimes K) := ok_times FM B
  refine F.ok scBook (fun vs H Q E h => ?_) (fun cdv A outer s H vs Q E hr h => ?_)
  · obtain ⟨a, mw, mr, rfl, _⟩ := h
    rfl
  · obtain ⟨a, mw, mr, rfl, hF, w1, w6, r0, r6, q⟩ := h
    have hr1 : Room 1 _ := hr.mono (by decide)
    have hr2 : Room 2 _ := hr.mono (by decide)
    refine ⟨_, pss_cons (ps_par (i := 3) (j := 4) (by rfl) scBook.nd rfl rfl (by decide) rfl rfl (pa_cons (pe_op op_add pe_int (pe_call GT hr1 (by rfl) gT FT.kp bT .nil pass0 (pa_cons (pv 0) (pa_cons (pv 1) pa_nil)))) (pa_cons (pe_lst pa_nil) pa_nil)) (by rfl))
      (pss_cons (ps_set (i := 5) scBook.nd rfl (.inr rfl) (pe_call GT hr1 (by rfl) gT FT.kp bT .nil pass0 (pa_cons (pv 0) (pa_cons pe_int pa_nil))))
      (pss_cons (ps_for PassesOwn.never rfl (pi_range1 rfl B.range (pa_cons (pe_call GT hr1 (by rfl) gT FT.kp bT .nil pass0 (pa_cons (pv 0) (pa_cons (pe_op op_add (pv 2) pe_int) pa_nil))) pa_nil)) (pg_name (i := 6) scBook.nd rfl (.inl rfl))
        (pss_cons (ps_setLc (i := 7) (own := [("work", 8)]) (g := gName 8) (tt := tTest (tOp (rI0 fun i j => .bl (decide (i < j))) (tCall spTake [] E0 (tCons (tVar 0) (tCons (tC (.int 3)) tNil))) (tOp (rI0 fun i j => .int (i + j)) (tC (.int 1)) (tVar 5)))) (te := tVar 8)
            (by rfl) scBook.nd rfl rfl (sw_true rfl rfl rfl (by decide +kernel)) (pi_range1 rfl B.range (pa_cons (pv 3) pa_nil))
            (blkOk_by (own := [("work", 8)]) (N := ["feed", "most_works", "most_readers", "works", "readers", "wide", "turn", "may", "work", "demands"]) (sc := defScope sBook) (by decide +kernel))
            (fun _ _ _ _ _ => pg_name (i := 8) scBook.nd rfl (.inl rfl))
            (fun _ _ _ _ _ => pts_one (pt_cmpR op_lt (pe_call GT hr1 (by rfl) gT FT.kp bT .nil pass0 (pa_cons (pv 0) (pa_cons pe_int pa_nil))) (pe_op op_add pe_int (pv 5)) (nomark _))) (fun _ _ _ _ _ => pv 8))
        (pss_one (ps_expr (pe_bm PySem.F.plainAttrs_list PySem.F.slot_list_append PySem.F.type_list_append mt_append (pv 4) (pa_cons (pe_tup (pa_cons
            (pe_call GP hr2 (by rfl) gP FP.kp bP .nil pass0 (pa_cons (pv 0) (pa_cons (pe_lst (pa_cons pe_int (pa_cons pe_int (pa_cons pe_int (pa_cons pe_int (pa_cons pe_int (pa_cons pe_int (pa_cons pe_int (pa_cons pe_int (pa_cons pe_int (pa_cons pe_int pa_nil))))))))))) pa_nil)))
            (pa_cons (pe_callTy call_tuple_of (by rfl) B.tuple (by decide +kernel) (pa_cons (pv 7) pa_nil)) pa_nil))) pa_nil))))))
      (pss_cons (ps_set (i := 9) scBook.nd rfl (.inl rfl) (pe_call GM hr1 (by rfl) gM FM.kp bM .nil pass0 (pa_cons (pe_call GS hr (by rfl) gS FS.kp bS .nil pass0 (pa_cons (pv 0) (pa_cons (pv 4) (pa_cons (pe_tup pa_nil) pa_nil)))) (pa_cons (pv 3) pa_nil))))
      (pss_cons (ps_for PassesOwn.never rfl (pi_range1 rfl B.range (pa_cons (pe_call GP hr2 (by rfl) gP FP.kp bP .nil pass0 (pa_cons (pv 0) (pa_cons (pe_lst (pa_cons pe_int (pa_cons pe_int (pa_cons pe_int (pa_cons pe_int (pa_cons pe_int (pa_cons pe_int pa_nil))))))) pa_nil))) pa_nil)) (pg_name (i := 6) scBook.nd rfl (.inl rfl))
        (pss_one (ps_asg (pe_call GP hr2 (by rfl) gP FP.kp bP .nil pass0 (pa_cons (pv 0) (pa_cons (pe_lst (pa_cons pe_int (pa_cons pe_int (pa_cons pe_int (pa_cons pe_int (pa_cons pe_int (pa_cons pe_int pa_nil))))))) pa_nil)))
          (pg_sub (pv 9) (pe_call GT hr1 (by rfl) gT FT.kp bT .nil pass0 (pa_cons (pv 0) (pa_cons (pv 3) pa_nil))) set_list))))
      (pss_one (ps_ret (pe_lst (pa_cons (pv 9) (pa_cons (pv 4) pa_nil))))))))), ?_⟩
    refine ⟨_, rfl, _, rfl, a, mw, rfl, hF, by omega, by omega, fun H1 n e1 n0 n1 => ?_⟩
    obtain ⟨wn, ew⟩ : ∃ wn : Nat, 1 + n = (wn : Int) := ⟨(1 + n).toNat, by omega⟩
    refine ⟨_, _, rfl, rfl, Nat.zero_le _, fun R nR => ⟨.int wn, .ref R, by rw [← ew], ?_⟩⟩
    have hw1 : 1 ≤ wn := by omega
    have hw6 : wn ≤ 6 := by omega
    have hwm : (wn : Int) ≤ mw := by omega
    have nR0 : H R = none := e1.free nR
    have fR : R ≠ a := hF.ne nR0
    have e1' : Ext1 a H (upd H1 R (.lst [])) := e1.new nR
    refine ⟨_, rfl, a, 3, rfl, e1'.feed, by decide, by decide, fun H2 wd e2 wd0 wd1 => ?_⟩
    refine ⟨_, rfl, _, rfl, _, _, rfl, rfl, a, _, rfl, e2.feed, by omega, by omega, fun H3 n3 e3 n30 n31 => ⟨n3, rfl, by omega, by omega, ?_⟩⟩
    have e3' : Ext1 a H H3 := e1'.trans (e2.trans e3)
    refine for_range (lo := 0) (n := n3.toNat) (fun i σ H' => ∃ (us : List V) (rs : List (Int × List Int)) (y6 y7 : Option V), σ = [some (.ref a), some (.int mw), some (.int mr), some (.int wn), some (.ref R), some (.int wd), y6, y7, none, none] ∧ Ext1 a H H' ∧ H' R = some (.lst us) ∧
        Paired (RdT K H') us rs ∧ rs.length = i ∧ RdsAt wn rs) ⟨[], [], none, none, rfl, e3', ?_, .nil, rfl, fun r hr => by simp at hr⟩ ?_ ?_
    · exact e3.1 _ _ fR (e2.1 _ _ fR upd_same)
    · rintro i σ H4 hi ⟨us, rs, y6, y7, rfl, e4, hR, hP, hlen, hok⟩
      refine ⟨_, rfl, wn, rfl, by omega, by omega, fun D nD => ?_⟩
      have nD0 : H D = none := e4.free nD
      have fD : D ≠ a := hF.ne nD0
      have nDR : R ≠ D := ne_of_none hR nD
      refine lc_range (lo := 0) (n := ((wn : Nat) : Int).toNat) (fun j H' => ∃ acc : List Int, Ext1 a H4 H' ∧ H' D = some (.lst (acc.map V.int)) ∧ acc.Pairwise (· < ·) ∧ ∀ x ∈ acc, 0 ≤ x ∧ x < (j : Int))
        ⟨[], (Ext1.refl e4.feed).new nD, upd_same, .nil, fun x hx => by simp at hx⟩ ?_ ?_
      · rintro j H5 hj ⟨acc, e5, hD, pa, ba⟩
        refine ⟨rfl, _, rfl, a, 3, rfl, e5.feed, by decide, by decide, fun H6 v e6 v0 v1 => ⟨_, rfl, _, _, rfl, rfl, _, _, rfl, rfl, _, rfl, ite2 (fun _ => ?_) (fun _ => ?_)⟩⟩
        · have hD6 := e6.1 _ _ fD hD
          have hal := asc_len pa ba (by omega)
          have hj' : j < wn := by simpa using hj
          refine ⟨_, rfl, _, hD6, szl (by rw [List.length_map]; omega), acc ++ [0 + (j : Int)], (e5.trans e6).own nD fD, by rw [upd_same, List.map_append]; rfl, ?_, ?_⟩
          · refine List.pairwise_append.mpr ⟨pa, List.pairwise_singleton _ _, fun x hx y hy => ?_⟩
            have := ba x hx
            rw [List.mem_singleton.mp hy]
            omega
          · intro x hx
            rcases List.mem_append.mp hx with h | h
            · have := ba x h
              omega
            · rw [List.mem_singleton.mp h]
              omega
        · exact ⟨acc, e5.trans e6, e6.1 _ _ fD hD, pa, fun x hx => by have := ba x hx; omega⟩
      · rintro H5 ⟨acc, e5, hD, pa, ba⟩
        have ha : Asc wn acc := ⟨pa, fun x hx => by have := ba x hx; omega⟩
        have hR5 := e5.1 _ _ fR hR
        have hi3 : i < n3.toNat := hi
        refine ⟨_, rfl, .inl ⟨rfl, _, .inl (.inl hR5)⟩, ?_⟩
        refine ⟨_, rfl, (by show 10 ≤ sizeLine; decide), fun l nl => ⟨a, l, [0, 1, 1, 1, 2, 2, 3, 4, 5, 6].map V.int, rfl, (Ext1.new (Ext1.refl e5.feed) nl).feed, .inl (.inl upd_same), e5.feed.ne nl, by decide, by decide, fun H6 v e6 hv => ?_⟩⟩
        obtain ⟨lim, rfl, hlim⟩ := mem_map_int hv
        have hl6 : 0 ≤ lim ∧ lim ≤ 6 := (by decide : ∀ x ∈ ([0, 1, 1, 1, 2, 2, 3, 4, 5, 6] : List Int), 0 ≤ x ∧ x ≤ 6) lim hlim
        have e6' : Ext1 a H5 H6 := (Ext1.new (Ext1.refl e5.feed) nl).trans e6
        have hD6 := e6'.1 _ _ fD hD
        refine ⟨_, rfl, D, _, rfl, .inl ⟨.inl (.inl hD6), fun m nm => ⟨(by show 2 ≤ sizeLine; decide), fun t nt => ?_⟩⟩⟩
        have hR6 := e6'.1 _ _ fR hR5
        have nRm : R ≠ m := ne_of_none hR6 nm
        have hR7 : upd H6 m (.tup (acc.map V.int)) R = some (.lst us) := by rw [upd_ne nRm]; exact hR6
        have nRt : R ≠ t := ne_of_none hR7 nt
        have nmt : m ≠ t := fun e => by rw [← e, upd_same] at nt; cases nt
        have hR8 : upd (upd H6 m (.tup (acc.map V.int))) t (.tup [.int lim, .ref m]) R = some (.lst us) := by rw [upd_ne nRt]; exact hR7
        have e8 : Ext1 a H4 (upd (upd H6 m (.tup (acc.map V.int))) t (.tup [.int lim, .ref m])) := ((e5.trans e6').new nm).new nt
        have hul : us.length ≤ 100 := by rw [Paired.len hP, hlen]; omega
        refine ⟨R, _, _, rfl, rfl, hR8, szl (by omega), us ++ [.ref t], rs ++ [(lim, acc)], some (.int (0 + (i : Int))), some (.ref D), rfl, (e4.trans e8).own nR0 fR, upd_same, ?_, by simp [hlen], ?_⟩
        · refine Paired.snoc (L2.Paired.mapP hP fun _ _ z => RdT.upd hR8 (z.ext e8 e4.feed)) (RdT.upd hR8 ⟨t, m, rfl, .inl (.inl upd_same), .inl (.inl ?_)⟩)
          rw [upd_ne nmt, upd_same]
        · intro r hr
          rcases List.mem_append.mp hr with h | h
          · exact hok r h
          · rw [List.mem_singleton.mp h]
            exact ⟨hl6.1, hl6.2, ha⟩
    · rintro σ H4 ⟨us, rs, y6, y7, rfl, e4, hR, hP, hlen, hok⟩
      have hrl : rs.length ≤ 6 ∧ (rs.length : Int) ≤ mr := by omega
      refine ⟨_, rfl, _, rfl, Nat.zero_le _, fun ab nab => ?_⟩
      have e4' : Ext1 a H4 (upd H4 ab (.tup [])) := (Ext1.refl e4.feed).new nab
      refine ⟨a, R, ab, rs, [], rfl, e4'.feed, fR, ⟨us, .inl (.inl (e4'.1 _ _ fR hR)), L2.Paired.mapP hP fun _ _ z => z.ext e4' e4.feed⟩, rdsOk_of hok (by omega) (by omega), by omega, .inl (.inl upd_same), fun H5 p vs ws e5 np hp pw pr _ => ?_⟩
      have hwl : ws.length = rs.length := (Paired.len pr).symm
      refine ⟨_, rfl, p, vs, ws, wn, rfl, .inl (.inl hp), pw, by omega, by omega, fun H6 A s6 nA hA => ?_⟩
      have e6 : Ext1 a H4 H6 := (e4'.trans e5).trans (.same e5.feed s6)
      have nA0 : H A = none := (e4.trans (e4'.trans e5)).free nA
      have fA : A ≠ a := hF.ne nA0
      have hR6 := e6.1 _ _ fR hR
      have nAR : A ≠ R := fun e => by
        have := (e4'.trans e5).1 _ _ fR hR
        rw [← e, nA] at this; cases this
      have hP6 := L2.Paired.mapP hP fun _ _ z => RdT.ext e6 e4.feed z
      -- the demands are changed
      refine ⟨_, rfl, (by show 6 ≤ sizeLine; decide), fun l nl => ⟨a, l, [0, 0, 1, 1, 2, 6].map V.int, rfl, (Ext1.new (Ext1.refl e6.feed) nl).feed, .inl (.inl upd_same), e6.feed.ne nl, by decide, by decide, fun H7 v e7 hv => ?_⟩⟩
      obtain ⟨z, rfl, hz⟩ := mem_map_int hv
      have hz6 : 0 ≤ z ∧ z ≤ 6 := (by decide : ∀ x ∈ ([0, 0, 1, 1, 2, 6] : List Int), 0 ≤ x ∧ x ≤ 6) z hz
      have e7' : Ext1 a H6 H7 := (Ext1.new (Ext1.refl e6.feed) nl).trans e7
      refine ⟨z, rfl, by omega, by omega, ?_⟩
      refine for_range (lo := 0) (n := z.toNat) (fun i σ H' => ∃ (ds : List Int) (y6 : Option V), σ = [some (.ref a), some (.int mw), some (.int mr), some (.int wn), some (.ref R), some (.int wd), y6, y7, none, some (.ref A)] ∧ Ext1 a H H' ∧ H' A = some (.lst (ds.map V.int)) ∧ ds.length = wn ∧ (∀ d ∈ ds, 0 ≤ d ∧ d ≤ 6) ∧
          H' R = some (.lst us) ∧ Paired (RdT K H') us rs) ⟨times ws wn, y6, rfl, (e4.trans e6).trans e7', e7'.1 _ _ fA hA, times_len _ _, fun d hd => by have := times_le ws wn d hd; omega, e7'.1 _ _ fR hR6, L2.Paired.mapP hP6 fun _ _ z => RdT.ext e7' e6.feed z⟩ ?_ ?_
      · rintro i σ H8 hi ⟨ds, y6', rfl, e8, hA8, dl, db, hR8, hP8⟩
        refine ⟨_, rfl, (by show 6 ≤ sizeLine; decide), fun l nl => ⟨a, l, [0, 1, 1, 2, 3, 6].map V.int, rfl, (Ext1.new (Ext1.refl e8.feed) nl).feed, .inl (.inl upd_same), e8.feed.ne nl, by decide, by decide, fun H9 v e9 hv => ?_⟩⟩
        obtain ⟨y, rfl, hy⟩ := mem_map_int hv
        have hy6 : 0 ≤ y ∧ y ≤ 6 := (by decide : ∀ x ∈ ([0, 1, 1, 2, 3, 6] : List Int), 0 ≤ x ∧ x ≤ 6) y hy
        have e9' : Ext1 a H8 H9 := (Ext1.new (Ext1.refl e8.feed) nl).trans e9
        refine ⟨_, rfl, _, rfl, _, rfl, a, wn, rfl, e9'.feed, by omega, by omega, fun H10 k e10 k0 k1 => ?_⟩
        have e10' := e9'.trans e10
        have hA10 := e10'.1 _ _ fA hA8
        have hR10 := e10'.1 _ _ fR hR8
        obtain ⟨j, rfl⟩ : ∃ j : Nat, k = (j : Int) := ⟨k.toNat, by omega⟩
        refine ⟨A, _, (j : Int), j, rfl, rfl, hA10, ?_, ds.set j y, some (.int (0 + (i : Int))), rfl, (e8.trans e10').own nA0 fA, ?_, by simp [dl], ?_, ?_, ?_⟩
        · rw [List.length_map, dl]
          unfold ixN
          rw [if_pos (by omega), if_pos (by omega)]
          simp
        · rw [upd_same, List.map_set]
        · intro d hd
          rcases List.mem_or_eq_of_mem_set hd with h | h
          · exact db d h
          · rw [h]; exact hy6
        · rw [upd_ne nAR.symm]; exact hR10
        · exact L2.Paired.mapP hP8 fun _ _ z => RdT.upd hA10 (z.ext e10' e8.feed)
      · rintro σ H8 ⟨ds, y6', rfl, e8, hA8, dl, db, hR8, hP8⟩
        refine ⟨_, rfl, _, rfl, (by show 2 ≤ sizeLine; decide), fun p np => ?_⟩
        have hs : Same H8 (upd H8 p (.lst [.ref A, .ref R])) := sameU np
        have npA : p ≠ A := (ne_of_none hA8 np).symm
        have npR : p ≠ R := (ne_of_none hR8 np).symm
        exact q _ p A R ds us rs (e8.new np) (e8.free np) nA0 nR0 upd_same
          ⟨hs _ _ hA8, hs _ _ hR8, L2.Paired.mapP hP8 fun _ _ z => RdT.same hs z, by omega, by omega, db, hrl.1, by rw [dl]; exact hok, nAR⟩ npA npR (by omega) hrl.2
end
end Ew
namespace Ew
open PySem PySem.Spec PyProof.Rows L2
abbrev sIsInt : Stmt := (top 2)
abbrev sIsAmt : Stmt := (top 3)
abbrev sIsAsc : Stmt := (top 4)
abbrev sAreDem : Stmt := (top 20)
abbrev sIsRd : Stmt := (top 21)
def isI : V → Bool
  | .int _ => true
  | _ => false
def amt : V → Bool
  | .int i => decide (0 ≤ i) && decide (i ≤ 6)
  | _ => false
def ascV (n : Int) : Int → List V → Bool
  | _, [] => true
  | l, .int i :: r => decide (l < i) && decide (i < n) && ascV n i r
  | _, _ :: _ => false
/-- a value of a built-in type (of which what is asked about it stays) -/
def Bt (K : PySem.W.Frag) (H : Hp) (x : V) (T : String) : Prop := TyX K H x (.type T)
def spIsInt (K : PySem.W.Frag) : Sp := fun vs H Q _ => ∃ (x : V) (T : String), vs = [x] ∧ Bt K H x T ∧ Q (.bl (isI x)) H
def spIsAmt (K : PySem.W.Frag) : Sp := fun vs H Q _ => ∃ (x : V) (T : String), vs = [x] ∧ Bt K H x T ∧ Q (.bl (amt x)) H
def spIsAsc (K : PySem.W.Frag) : Sp := fun vs H Q _ => ∃ (x : V) (n : Int), vs = [x, .int n] ∧ ((∃ T, Bt K H x T ∧ T ≠ "tuple" ∧ Q (.bl false) H) ∨ ∃ t xs, x = .ref t ∧ SqT K H t xs ∧ (∀ y ∈ xs, ∃ T, Bt K H y T) ∧ Q (.bl (ascV n (-1) xs)) H)
def spAreDem (K : PySem.W.Frag) : Sp := fun vs H Q _ => ∃ (x : V), vs = [x] ∧ ((∃ T, Bt K H x T ∧ T ≠ "list" ∧ Q (.bl false) H) ∨ ∃ a xs, x = .ref a ∧ SqL K H a xs ∧ Bt K H x "list" ∧ xs.length ≤ 1000 ∧ (∀ y ∈ xs, ∃ T, Bt K H y T) ∧
  ∀ H', Same H H' → Q (.bl (decide (1 ≤ xs.length ∧ xs.length ≤ 6) && xs.all amt)) H')
def rdV (K : PySem.W.Frag) (H : Hp) (n : Int) (x : V) (b : Bool) : Prop :=
  (∃ T, Bt K H x T ∧ T ≠ "tuple" ∧ b = false) ∨ (∃ t xs, x = .ref t ∧ SqT K H t xs ∧ xs.length ≠ 2 ∧ b = false) ∨
  (∃ t y z, x = .ref t ∧ SqT K H t [y, z] ∧ (∃ T, Bt K H y T) ∧ ((∃ T, Bt K H z T ∧ T ≠ "tuple" ∧ b = false) ∨ ∃ m ys, z = .ref m ∧ SqT K H m ys ∧ (∀ u ∈ ys, ∃ T, Bt K H u T) ∧ b = (amt y && ascV n (-1) ys)))
def spIsRd (K : PySem.W.Frag) : Sp := fun vs H Q _ => ∃ (x : V) (n : Int) (b : Bool), vs = [x, .int n] ∧ rdV K H n x b ∧ Q (.bl b) H
theorem isI_of {K : PySem.W.Frag} {H : Hp} {x : V} {T : String} (h : Bt K H x T) : PySem.W.kitOne K (.type T) (.type "int") = some (decide (T = "int" ∨ T = "bool")) ∧ PySem.W.kitOne K (.type T) (.type "bool") = some (decide (T = "bool")) ∧ isI x = decide (T = "int") := by
  cases h with
  | base b => cases b <;> exact ⟨kit_ty (by decide +kernel), kit_ty (by decide +kernel), rfl⟩
  | _ => exact ⟨kit_ty (by decide +kernel), kit_ty (by decide +kernel), rfl⟩
theorem isT_of {K : PySem.W.Frag} {H : Hp} {x : V} {T : String} (h : Bt K H x T) : PySem.W.kitOne K (.type T) (.type "tuple") = some (decide (T = "tuple")) ∧ PySem.W.kitOne K (.type T) (.type "list") = some (decide (T = "list")) := by
  cases h with
  | base b => cases b <;> exact ⟨kit_ty (by decide +kernel), kit_ty (by decide +kernel)⟩
  | _ => exact ⟨kit_ty (by decide +kernel), kit_ty (by decide +kernel)⟩
theorem bt_tup {K : PySem.W.Frag} {H : Hp} {t : Addr} {xs : List V} (h : SqT K H t xs) : Bt K H (.ref t) "tuple" := by
  rcases h with (h | ⟨o, h⟩) | ⟨o, its, n, h, c, _⟩
  · exact .base (.tup h)
  · exact .fTuple h
  · exact .kTuple h c
theorem bt_lst {K : PySem.W.Frag} {H : Hp} {t : Addr} {xs : List V} (h : SqL K H t xs) : Bt K H (.ref t) "list" := by
  rcases h with (h | ⟨o, h⟩) | ⟨o, its, n, h, c, _⟩
  · exact .base (.lst h)
  · exact .base (.frz h)
  · exact .kList h c
theorem isI_int {x : V} (h : isI x = true) : ∃ i, x = .int i := by
  cases x <;> first | exact ⟨_, rfl⟩ | cases h
theorem amt_not {x : V} (h : isI x = false) : amt x = false := by
  cases x <;> first | rfl | cases h
/-- what stands of the package's small defs -/
structure Vals1 (K : PySem.W.Frag) (mg : Str → Option Value) : Prop where
  bi : Bi mg
  ga : ∃ t, mg "GREATEST_AMOUNT" = some (.int 6 t)
  mw : ∃ t, mg "MOST_WORKS" = some (.int 6 t)
  mr : ∃ t, mg "MOST_READERS" = some (.int 6 t)
  isInt : ∃ f fd, Fun K "is_integer" "is_integer" sIsInt f fd ∧ Binds K fd ["value"] [] ∧ mg "is_integer" = some (.ref f)
  isAmt : ∃ f fd, Fun K "is_amount" "is_amount" sIsAmt f fd ∧ Binds K fd ["value"] [] ∧ mg "is_amount" = some (.ref f)
  isAsc : ∃ f fd, Fun K "is_ascending" "is_ascending" sIsAsc f fd ∧ Binds K fd ["value", "many"] [] ∧ mg "is_ascending" = some (.ref f)
  areDem : ∃ f fd, Fun K "are_demands" "are_demands" sAreDem f fd ∧ Binds K fd ["value"] [] ∧ mg "are_demands" = some (.ref f)
  isRd : ∃ f fd, Fun K "is_reader" "is_reader" sIsRd f fd ∧ Binds K fd ["value", "many"] [] ∧ mg "is_reader" = some (.ref f)
section
variable {P : Program} {w : World} {K : PySem.W.Frag} {mg : Str → Option Value} {base : Heap}
theorem scIsInt : FnScope ["value"] ["value"] (defScope sIsInt) := ⟨rfl, rfl, rfl, by decide +kernel, rfl, by decide +kernel, by decide +kernel⟩
theorem ok_isInt {f : Addr} {fd : FuncData} (F : Fun K "is_integer" "is_integer" sIsInt f fd) (B : Bi mg) : FnOk P w K mg base CX0 1 f fd ["value"] (spIsInt K) := by
  refine F.ok scIsInt (fun vs H Q E h => ?_) (fun cdv A outer s H vs Q E hr h => ?_)
  · obtain ⟨x, T, rfl, _⟩ := h
    rfl
  · obtain ⟨x, T, rfl, hT, q⟩ := h
    refine ⟨_, pss_one (ps_ret (pe_and (pe_callB call_isi (by rfl) B.isinstance (by decide +kernel) (pa_cons (pv 0) (pa_cons (pe_bltn (v := .ty "int") (by rfl) B.int (by decide +kernel) rfl) pa_nil)))
      (pe_one (pe_not (pe_callB call_isi (by rfl) B.isinstance (by decide +kernel) (pa_cons (pv 0) (pa_cons (pe_bltn (v := .ty "bool") (by rfl) B.bool (by decide +kernel) rfl) pa_nil))))))), ?_⟩
    obtain ⟨k1, k2, e⟩ := isI_of hT
    refine ⟨x, rfl, x, .ty "int", _, _, _, rfl, .ty _, hT, k1, _, rfl, ?_⟩
    refine ite2 (fun c => ?_) (fun c => ?_)
    · refine ⟨x, rfl, x, .ty "bool", _, _, _, rfl, .ty _, hT, k2, _, rfl, ?_⟩
      have : (!decide (T = "bool")) = isI x := by
        rw [e]
        rcases of_decide_eq_true c with h | h
        · subst h; decide
        · subst h; decide
      rw [this]
      exact q
    · have : false = isI x := by
        rw [e]
        have h : ¬ (T = "int" ∨ T = "bool") := fun h => c (decide_eq_true h)
        exact (decide_eq_false fun h' => h (.inl h')).symm
      rw [this]
      exact q
theorem scIsAmt : FnScope ["value"] ["value"] (defScope sIsAmt) := ⟨rfl, rfl, rfl, by decide +kernel, rfl, by decide +kernel, by decide +kernel⟩
theorem ok_isAmt {f : Addr} {fd : FuncData} (F : Fun K "is_amount" "is_amount" sIsAmt f fd) (L : Vals1 K mg) : FnOk P w K mg base CX0 2 f fd ["value"] (spIsAmt K) := by
  obtain ⟨B, ⟨tg, ga⟩, _, _, ⟨fI, fdI, FI, bI, gI⟩, _⟩ := L
  have GI : FnOk P w K mg base CX0 1 fI fdI ["value"] (spIsInt K) := ok_isInt FI B
  refine F.ok scIsAmt (fun vs H Q E h => ?_) (fun cdv A outer s H vs Q E hr h => ?_)
  · obtain ⟨x, T, rfl, _⟩ := h
    rfl
  · obtain ⟨x, T, rfl, hT, q⟩ := h
    refine ⟨_, pss_one (ps_ret (pe_and (pe_call GI hr (by rfl) gI FI.kp bI .nil pass0 (pa_cons (pv 0) pa_nil)) (pe_one (pe_chain op_le op_le pe_int (pv 0) (pe_glob (v := .int 6) (by rfl) ga ⟨_, rfl⟩))))), ?_⟩
    refine ⟨x, rfl, x, T, rfl, hT, _, rfl, ?_⟩
    refine ite2 (fun c => ?_) (fun c => ?_)
    · obtain ⟨i, rfl⟩ := isI_int c
      refine ⟨_, rfl, _, _, rfl, rfl, _, rfl, ite2 (fun c => ?_) (fun c => ?_)⟩
      · refine ⟨_, _, rfl, rfl, ?_⟩
        have : amt (.int i) = decide (i ≤ 6) := by show (_ && _) = _; rw [c]; rfl
        rw [this] at q
        exact q
      · have : amt (.int i) = false := by show (_ && _) = _; rw [Bool.eq_false_iff.mpr c]; rfl
        rw [this] at q
        exact q
    · rw [amt_not (Bool.eq_false_iff.mpr c)] at q
      exact q
theorem scIsAsc : FnScope ["value", "many", "last", "item"] ["value", "many"] (defScope sIsAsc) := ⟨rfl, rfl, rfl, by decide +kernel, rfl, by decide +kernel, by decide +kernel⟩
theorem ok_isAsc {f : Addr} {fd : FuncData} (F : Fun K "is_ascending" "is_ascending" sIsAsc f fd) (L : Vals1 K mg) : FnOk P w K mg base CX0 2 f fd ["value", "many"] (spIsAsc K) := by
  obtain ⟨B, _, _, _, ⟨fI, fdI, FI, bI, gI⟩, _⟩ := L
  have GI : FnOk P w K mg base CX0 1 fI fdI ["value"] (spIsInt K) := ok_isInt FI B
  refine F.ok scIsAsc (fun vs H Q E h => ?_) (fun cdv A outer s H vs Q E hr h => ?_)
  · obtain ⟨x, n, rfl, _⟩ := h
    rfl
  · obtain ⟨x, n, rfl, h⟩ := h
    refine ⟨_, pss_cons (ps_if (pt_not (pt_val (pe_callB call_isi (by rfl) B.isinstance (by decide +kernel) (pa_cons (pv 0) (pa_cons (pe_bltn (v := .ty "tuple") (by rfl) B.tuple (by decide +kernel) rfl) pa_nil))))) (pss_one (ps_ret pe_bl)) pss_nil)
      (pss_cons (ps_set (i := 2) scIsAsc.nd rfl (.inl rfl) (pe_un un_neg pe_int))
      (pss_cons (ps_for PassesOwn.never rfl (pi_tup (pv 0)) (pg_name (i := 3) scIsAsc.nd rfl (.inl rfl))
        (pss_cons (ps_if (PW.pt (pw_or (pt_not (pt_val (pe_call GI hr (by rfl) gI FI.kp bI .nil pass0 (pa_cons (pv 3) pa_nil)))) (pw_or1 (pt_not (pt_chain op_lt op_lt (pv 2) (pv 3) (pv 1)))))) (pss_one (ps_ret pe_bl)) pss_nil)
          (pss_one (ps_set (i := 2) scIsAsc.nd rfl (.inl rfl) (pv 3)))))
      (pss_one (ps_ret pe_bl)))), ?_⟩
    rcases h with ⟨T, hT, nT, q⟩ | ⟨t, xs, rfl, hS, hty, q⟩
    · obtain ⟨k1, _⟩ := isT_of hT
      rw [decide_eq_false nT] at k1
      refine ⟨x, rfl, x, .ty "tuple", _, _, _, rfl, .ty _, hT, k1, _, rfl, ?_⟩
      exact q
    · obtain ⟨k1, _⟩ := isT_of (bt_tup hS)
      refine ⟨_, rfl, _, .ty "tuple", _, _, _, rfl, .ty _, bt_tup hS, k1, _, rfl, ?_⟩
      show (if (!decide ("tuple" = "tuple")) = true then _ else _)
      refine iteNS rfl ?_
      refine ⟨1, rfl, ?_⟩
      refine ⟨_, rfl, t, rfl, ⟨_, hS⟩, for_tup (K := K) (a := t) (xs := xs) (fun i σ H' => ∃ (l : Int) (y : Option V), σ = [some (.ref t), some (.int n), some (.int l), y] ∧ H' = H ∧ ascV n (-1) xs = ascV n l (xs.drop i)) ⟨-1, none, rfl, rfl, rfl⟩ (fun i σ H' _ ⟨_, _, _, e, _⟩ => e ▸ hS) ?_ ?_⟩
      · rintro i x σ H' hx ⟨l, y, rfl, rfl, e⟩
        obtain ⟨T, hT⟩ := hty x (List.mem_of_getElem? hx)
        have hd : xs.drop i = x :: xs.drop (i + 1) := by
          have hl := (List.getElem?_eq_some_iff.mp hx)
          rw [List.drop_eq_getElem_cons hl.1, hl.2]
        rw [hd] at e
        refine ⟨_, rfl, _, T, rfl, hT, _, rfl, ?_⟩
        cases hi : isI x with
        | false =>
          have : ascV n l (x :: xs.drop (i + 1)) = false := by cases x <;> first | rfl | cases hi
          rw [e, this] at q
          exact q
        | true =>
          obtain ⟨z, rfl⟩ := isI_int hi
          refine ⟨_, rfl, _, rfl, _, _, rfl, rfl, _, rfl, ite2 (fun c => ?_) (fun c => ?_)⟩
          · refine ⟨_, rfl, _, _, rfl, rfl, _, rfl, ?_⟩
            show (if (!decide (z < n)) = true then _ else _)
            cases c2 : decide (z < n) with
            | true =>
              refine iteF ?_
              refine ⟨_, rfl, z, _, rfl, rfl, ?_⟩
              rw [e]
              show (decide (l < z) && decide (z < n) && _) = _
              rw [c, c2]
              rfl
            | false =>
              refine iteT ?_
              have : ascV n l (V.int z :: xs.drop (i + 1)) = false := by
                show (decide (l < z) && decide (z < n) && _) = _
                rw [c2, Bool.and_false]
                rfl
              rw [e, this] at q
              exact q
          · refine ⟨_, rfl, ?_⟩
            have : ascV n l (V.int z :: xs.drop (i + 1)) = false := by
              show (decide (l < z) && decide (z < n) && _) = _
              rw [Bool.eq_false_iff.mpr c]
              rfl
            rw [e, this] at q
            exact q
      · rintro σ H' ⟨l, y, rfl, rfl, e⟩
        rw [List.drop_length] at e
        have e' : ascV n (-1) xs = true := e
        rw [e'] at q
        exact q
end
end Ew
namespace Ew
open PySem PySem.Spec PyProof.Rows L2
section
variable {P : Program} {w : World} {K : PySem.W.Frag} {mg : Str → Option Value} {base : Heap}
theorem Bt.same {H H' : Hp} {x : V} {T : String} (s : Same H H') (h : Bt K H x T) : Bt K H' x T := by
  cases h with
  | base b =>
    cases b with
    | non => exact .base .non
    | bl => exact .base (.bl _)
    | int => exact .base (.int _)
    | str => exact .base (.str _)
    | flt => exact .base (.flt _)
    | lst e => exact .base (.lst (s _ _ e))
    | frz e => exact .base (.frz (s _ _ e))
    | tup e => exact .base (.tup (s _ _ e))
    | dK e => exact .base (.dK (s _ _ e))
    | dT e => exact .base (.dT (s _ _ e))
  | byt => exact .byt _
  | set e => exact .set (s _ _ e)
  | kList e c => exact .kList e c
  | kTuple e c => exact .kTuple e c
  | kDict e c => exact .kDict e c
  | fTuple e => exact .fTuple (s _ _ e)
  | fDict e => exact .fDict (s _ _ e)
theorem scAreDem : FnScope ["value", "demand"] ["value"] (defScope sAreDem) := ⟨rfl, rfl, rfl, by decide +kernel, rfl, by decide +kernel, by decide +kernel⟩
theorem ok_areDem {f : Addr} {fd : FuncData} (F : Fun K "are_demands" "are_demands" sAreDem f fd) (L : Vals1 K mg) : FnOk P w K mg base CX0 3 f fd ["value"] (spAreDem K) := by
  have L' := L
  obtain ⟨B, _, ⟨tw, mw⟩, _, _, ⟨fA, fdA, FA, bA, gA⟩, _⟩ := L'
  have GA : FnOk P w K mg base CX0 2 fA fdA ["value"] (spIsAmt K) := ok_isAmt FA L
  refine F.ok scAreDem (fun vs H Q E h => ?_) (fun cdv A outer s H vs Q E hr h => ?_)
  · obtain ⟨x, rfl, _⟩ := h
    rfl
  · obtain ⟨x, rfl, h⟩ := h
    refine ⟨_, pss_cons (ps_if (PW.pt (pw_or (pt_not (pt_val (pe_callB call_isi (by rfl) B.isinstance (by decide +kernel) (pa_cons (pv 0) (pa_cons (pe_bltn (v := .ty "list") (by rfl) B.list (by decide +kernel) rfl) pa_nil)))))
          (pw_or1 (pt_not (pt_chain op_le op_le pe_int (pe_callB call_len_seq (by rfl) B.len PySem.boot_len (pa_cons (pv 0) pa_nil)) (pe_glob (v := .int 6) (by rfl) mw ⟨_, rfl⟩)))))) (pss_one (ps_ret pe_bl)) pss_nil)
      (pss_one (ps_ret (pe_callB (cr_all rfl) (by rfl) B.all (by decide +kernel) (pa_cons
        (pe_lc (own := [("demand", 1)]) (g := gName 1) (tt := tYes) (te := tCall (spIsAmt K) [] E0 (tCons (tVar 1) tNil)) rfl scAreDem.nd (pi_list (pv 0)) (blkOk_by (own := [("demand", 1)]) (N := ["value", "demand"]) (sc := defScope sAreDem) (by decide +kernel))
          (fun _ _ _ _ _ => pg_name (i := 1) scAreDem.nd rfl (.inl rfl)) (fun _ _ _ _ _ => pts_nil) (fun _ _ _ _ _ => pe_call GA hr (by rfl) gA FA.kp bA .nil pass0 (pa_cons (pv 1) pa_nil))) pa_nil)))), ?_⟩
    rcases h with ⟨T, hT, nT, q⟩ | ⟨a, xs, rfl, hS, hB, hl, hty, q⟩
    · obtain ⟨_, k1⟩ := isT_of hT
      rw [decide_eq_false nT] at k1
      refine ⟨x, rfl, x, .ty "list", _, _, _, rfl, .ty _, hT, k1, _, rfl, ?_⟩
      exact q
    · obtain ⟨_, k1⟩ := isT_of hB
      refine ⟨_, rfl, _, .ty "list", _, _, _, rfl, .ty _, hB, k1, _, rfl, ?_⟩
      show (if (!decide ("list" = "list")) = true then _ else _)
      refine iteNS rfl ?_
      refine ⟨_, rfl, a, xs, rfl, .inl hS, _, _, rfl, rfl, _, rfl, ite2 (fun c => ?_) (fun c => ?_)⟩
      · refine ⟨_, _, rfl, rfl, _, rfl, ?_⟩
        have c1 : (1 : Int) ≤ ((xs.length : Nat) : Int) := of_decide_eq_true c
        show (if (!decide (((xs.length : Nat) : Int) ≤ 6)) = true then _ else _)
        by_cases c6 : ((xs.length : Nat) : Int) ≤ 6
        · refine iteNS c6 ?_
          refine ⟨_, rfl, a, rfl, ⟨_, hS⟩, fun D nD => ?_⟩
          refine lc_list (K := K) (a := a) (xs := xs) (fun i H' => Same H H' ∧ H' D = some (.lst (((xs.take i).map amt).map V.bl))) ⟨sameU nD, upd_same⟩ (fun i H' _ ⟨e, _⟩ => e.seq hS) ?_ ?_
          · rintro i x H1 hx ⟨s1, hD⟩
            obtain ⟨T, hT⟩ := hty x (List.mem_of_getElem? hx)
            refine ⟨rfl, ?_⟩
            dsimp only [tYes]
            refine iteT ?_
            refine ⟨_, rfl, x, T, rfl, hT.same s1, _, hD, szl (by rw [List.length_map, List.length_map, List.length_take]; omega), same_own s1 nD, ?_⟩
            rw [upd_same, take_more hx, List.map_append, List.map_append]
            rfl
          · rintro H1 ⟨s1, hD⟩
            rw [List.take_length] at hD
            refine ⟨D, _, rfl, .inl (.inl hD), ?_⟩
            have q' := q H1 s1
            have e1 : decide (1 ≤ xs.length ∧ xs.length ≤ 6) = true := decide_eq_true (by omega)
            have e2 : (xs.map amt).all id = xs.all amt := by rw [List.all_map]; rfl
            rw [e1, Bool.true_and, ← e2] at q'
            exact q'
        · rw [decide_eq_false c6]
          refine iteT ?_
          have e1 : decide (1 ≤ xs.length ∧ xs.length ≤ 6) = false := decide_eq_false (by omega)
          have q' := q H (Same.refl H)
          rw [e1] at q'
          exact q'
      · refine ⟨_, rfl, ?_⟩
        have c1 : ¬ (1 : Int) ≤ ((xs.length : Nat) : Int) := fun h => c (decide_eq_true h)
        have e1 : decide (1 ≤ xs.length ∧ xs.length ≤ 6) = false := decide_eq_false (by omega)
        have q' := q H (Same.refl H)
        rw [e1] at q'
        exact q'
theorem scIsRd : FnScope ["value", "many", "limit", "may"] ["value", "many"] (defScope sIsRd) := ⟨rfl, rfl, rfl, by decide +kernel, rfl, by decide +kernel, by decide +kernel⟩
theorem ok_isRd {f : Addr} {fd : FuncData} (F : Fun K "is_reader" "is_reader" sIsRd f fd) (L : Vals1 K mg) : FnOk P w K mg base CX0 3 f fd ["value", "many"] (spIsRd K) := by
  have L' := L
  obtain ⟨B, _, _, _, _, ⟨fA, fdA, FA, bA, gA⟩, ⟨fC, fdC, FC, bC, gC⟩, _⟩ := L'
  have GA : FnOk P w K mg base CX0 2 fA fdA ["value"] (spIsAmt K) := ok_isAmt FA L
  have GC : FnOk P w K mg base CX0 2 fC fdC ["value", "many"] (spIsAsc K) := ok_isAsc FC L
  refine F.ok scIsRd (fun vs H Q E h => ?_) (fun cdv A outer s H vs Q E hr h => ?_)
  · obtain ⟨x, n, b, rfl, _⟩ := h
    rfl
  · obtain ⟨x, n, b, rfl, h, q⟩ := h
    refine ⟨_, pss_cons (ps_if (PW.pt (pw_or (pt_not (pt_val (pe_callB call_isi (by rfl) B.isinstance (by decide +kernel) (pa_cons (pv 0) (pa_cons (pe_bltn (v := .ty "tuple") (by rfl) B.tuple (by decide +kernel) rfl) pa_nil)))))
          (pw_or1 (pt_cmpR op_ne (pe_callB call_len_seq (by rfl) B.len PySem.boot_len (pa_cons (pv 0) pa_nil)) pe_int (nomark _))))) (pss_one (ps_ret pe_bl)) pss_nil)
      (pss_cons (ps_asg (pv 0) (pg_tup (by rfl) (pgs_cons (pg_name (i := 2) scIsRd.nd rfl (.inl rfl)) (pgs_cons (pg_name (i := 3) scIsRd.nd rfl (.inl rfl)) pgs_nil))))
      (pss_one (ps_ret (pe_and (pe_call GA hr (by rfl) gA FA.kp bA .nil pass0 (pa_cons (pv 2) pa_nil)) (pe_one (pe_call GC hr (by rfl) gC FC.kp bC .nil pass0 (pa_cons (pv 3) (pa_cons (pv 1) pa_nil)))))))), ?_⟩
    rcases h with ⟨T, hT, nT, rfl⟩ | ⟨t, xs, rfl, hS, hl, rfl⟩ | ⟨t, y, z, rfl, hS, ⟨Ty, hy⟩, hz⟩
    · obtain ⟨k1, _⟩ := isT_of hT
      rw [decide_eq_false nT] at k1
      refine ⟨x, rfl, x, .ty "tuple", _, _, _, rfl, .ty _, hT, k1, _, rfl, ?_⟩
      exact q
    · obtain ⟨k1, _⟩ := isT_of (bt_tup hS)
      refine ⟨_, rfl, _, .ty "tuple", _, _, _, rfl, .ty _, bt_tup hS, k1, _, rfl, ?_⟩
      show (if (!decide ("tuple" = "tuple")) = true then _ else _)
      refine iteNS rfl ?_
      refine ⟨_, rfl, t, xs, rfl, .inr hS, rfl, _, rfl, ?_⟩
      have e : decide (V.int ((xs.length : Nat) : Int) = V.int 2) = false := decide_eq_false fun h => hl (by have := V.int.inj h; omega)
      rw [e]
      exact q
    · obtain ⟨k1, _⟩ := isT_of (bt_tup hS)
      refine ⟨_, rfl, _, .ty "tuple", _, _, _, rfl, .ty _, bt_tup hS, k1, _, rfl, ?_⟩
      show (if (!decide ("tuple" = "tuple")) = true then _ else _)
      refine iteNS rfl ?_
      refine ⟨_, rfl, t, _, rfl, .inr hS, rfl, _, rfl, ?_⟩
      refine iteF ?_
      refine ⟨_, rfl, t, _, rfl, hS, rfl, _, _, rfl, _, _, rfl, rfl, ?_⟩
      refine ⟨_, rfl, y, Ty, rfl, hy, _, rfl, ?_⟩
      rcases hz with ⟨T, hT, nT, rfl⟩ | ⟨m, ys, rfl, hM, hu, rfl⟩
      · cases amt y with
        | true => exact iteT ⟨_, rfl, _, rfl, z, _, rfl, .inl ⟨T, hT, nT, q⟩⟩
        | false => exact iteF q
      · cases ey : amt y with
        | true =>
          rw [ey] at q
          exact iteT ⟨_, rfl, _, rfl, _, _, rfl, .inr ⟨m, ys, rfl, hM, hu, q⟩⟩
        | false =>
          rw [ey] at q
          exact iteF q
end
end Ew
namespace Ew
open PySem PySem.Spec PyProof.Rows L2
abbrev sBkInit : Stmt := (inClass (top 22) 0)
abbrev sBkDem : Stmt := (inClass (top 22) 1)
abbrev sBkRd : Stmt := (inClass (top 22) 2)
abbrev sBkEq : Stmt := (inClass (top 22) 4)
theorem rd_ : ¬ (("_readers" : Str) = "_demands") := by decide +kernel
theorem dr_ : ¬ (("_demands" : Str) = "_readers") := by decide +kernel
def bf (A R : Addr) : List (Str × V) := putF "_readers" (.ref R) (putF "_demands" (.ref A) [])
theorem bf_dem (A R : Addr) : (bf A R).lookup ("_demands" : Str) = some (.ref A) := by
  unfold bf
  rw [lookup_putF, if_neg dr_, lookup_putF, if_pos rfl]
theorem bf_rd (A R : Addr) : (bf A R).lookup ("_readers" : Str) = some (.ref R) := by
  unfold bf
  rw [lookup_putF, if_pos rfl]
theorem bf_no (A R : Addr) {m : Str} (h1 : ¬ m = "_readers") (h2 : ¬ m = "_demands") : (bf A R).lookup m = none := by
  unfold bf
  rw [lookup_putF, if_neg h1, lookup_putF, if_neg h2]
  all_goals rfl
/-- a book stands at x: of ds and the readers us, which are rs; its lists are not the feed -/
def IsBook (K : PySem.W.Frag) (C f : Addr) (H : Hp) (x : Addr) (ds : List Int) (us : List V) (rs : List (Int × List Int)) : Prop :=
  ∃ dx A R, H x = some (.ins C dx (bf A R)) ∧ H A = some (.lst (ds.map V.int)) ∧ H R = some (.lst us) ∧ A ≠ f ∧ R ≠ f ∧ Paired (RdT K H) us rs
theorem IsBook.same {K : PySem.W.Frag} {C f x : Addr} {H H' : Hp} {ds us rs} (h : IsBook K C f H x ds us rs) (s : Same H H') : IsBook K C f H' x ds us rs := by
  obtain ⟨dx, A, R, h1, h2, h3, h4, h5, h6⟩ := h
  exact ⟨dx, A, R, s _ _ h1, s _ _ h2, s _ _ h3, h4, h5, L2.Paired.mapP h6 fun _ _ z => z.same s⟩
theorem IsBook.ext {K : PySem.W.Frag} {C f x : Addr} {H H' : Hp} {ds us rs} (h : IsBook K C f H x ds us rs) (hf : FeedAt H f) (s : Ext1 f H H') : IsBook K C f H' x ds us rs := by
  obtain ⟨dx, A, R, h1, h2, h3, h4, h5, h6⟩ := h
  have nx : x ≠ f := fun e => by
    obtain ⟨d, z, hz⟩ := hf
    rw [e, hz] at h1; cases h1
  exact ⟨dx, A, R, s.1 _ _ nx h1, s.1 _ _ h4 h2, s.1 _ _ h5 h3, h4, h5, L2.Paired.mapP h6 fun _ _ z => z.ext s hf⟩
/-- demands and readers as they may be -/
structure DsOk (ds : List Int) (rs : List (Int × List Int)) : Prop where
  n1 : 1 ≤ ds.length
  n6 : ds.length ≤ 6
  d6 : ∀ d ∈ ds, 0 ≤ d ∧ d ≤ 6
  r6 : rs.length ≤ 6
  ok : RdsAt ds.length rs
theorem BookAt.dsOk {K : PySem.W.Frag} {H : Hp} {A R : Addr} {ds us rs} (b : BookAt K H A R ds us rs) : DsOk ds rs := ⟨b.n1, b.n6, b.d6, b.r6, b.ok⟩
theorem bt_int {K : PySem.W.Frag} {H : Hp} (i : Int) : Bt K H (.int i) "int" := .base (.int i)
theorem ascV_ok {n : Int} : ∀ {l : List Int} {lo : Int}, l.Pairwise (· < ·) → (∀ x ∈ l, lo < x ∧ x < n) → ascV n lo (l.map V.int) = true
  | [], _, _, _ => rfl
  | x :: l, lo, hp, hb => by
    have hx := hb x (by simp)
    have hp' := List.pairwise_cons.mp hp
    show (decide (lo < x) && decide (x < n) && ascV n x (l.map V.int)) = true
    rw [decide_eq_true hx.1, decide_eq_true hx.2, ascV_ok hp'.2 fun y hy => ⟨hp'.1 y hy, (hb y (by simp [hy])).2⟩]
    rfl
theorem amt_ok {i : Int} (h : 0 ≤ i ∧ i ≤ 6) : amt (.int i) = true := by
  show (decide (0 ≤ i) && decide (i ≤ 6)) = true
  rw [decide_eq_true h.1, decide_eq_true h.2]
  rfl
theorem rdV_ok {K : PySem.W.Frag} {H : Hp} {n : Int} {v : V} {r : Int × List Int} (h : RdT K H v r) (o : RdOk n r) : rdV K H n v true := by
  obtain ⟨t, m, rfl, h1, h2⟩ := h
  refine .inr (.inr ⟨t, _, _, rfl, h1, ⟨_, bt_int _⟩, .inr ⟨m, _, rfl, h2, fun u hu => ?_, ?_⟩⟩)
  · obtain ⟨i, _, rfl⟩ := List.mem_map.mp hu
    exact ⟨_, bt_int _⟩
  · rw [amt_ok ⟨o.1, o.2.1⟩, ascV_ok o.2.2.1 fun x hx => by have := o.2.2.2 x hx; omega]
    rfl
def spBkInit (K : PySem.W.Frag) (C : Addr) : Sp := fun vs H Q _ => ∃ (x dx A R : Addr) (ds : List Int) (us : List V) (rs : List (Int × List Int)), vs = [.ref x, .ref A, .ref R] ∧ H x = some (.ins C dx []) ∧ SqL K H A (ds.map V.int) ∧ SqL K H R us ∧ Paired (RdT K H) us rs ∧ DsOk ds rs ∧
  ∀ H' A' R', (∀ b o, b ≠ x → H b = some o → H' b = some o) → H A' = none → H R' = none → H' x = some (.ins C dx (bf A' R')) → H' A' = some (.lst (ds.map V.int)) → H' R' = some (.lst us) → Q .non H'
structure BookTxt (K : PySem.W.Frag) (mg : Str → Option Value) (C : Addr) : Prop where
  cl : Cls K C
  nD : NoAttr K C "_demands"
  nR : NoAttr K C "_readers"
  mgC : mg "Book" = some (.ref C)
  init : ∃ f fd, Fun K "__init__" "Book.__init__" sBkInit f fd ∧ Binds K fd ["self", "demands", "readers"] [] ∧ Mk K C f
  dem : ∃ f fd, Fun K "demands" "Book.demands" sBkDem f fd ∧ Binds K fd ["self"] [] ∧ Meth K C "demands" f
  rd : ∃ f fd, Fun K "readers" "Book.readers" sBkRd f fd ∧ Binds K fd ["self"] [] ∧ Meth K C "readers" f
  eq : ∃ f fd, Fun K "__eq__" "Book.__eq__" sBkEq f fd ∧ Binds K fd ["self", "other"] [] ∧ Meth K C "__eq__" f
  ic : C8.InsC K C
  sub : PySem.W.notFirst K C (.ref C) = true
section
variable {P : Program} {w : World} {K : PySem.W.Frag} {mg : Str → Option Value} {base : Heap} {C : Addr}
theorem scBkInit : FnScope ["self", "demands", "readers", "place", "reader"] ["self", "demands", "readers"] (defScope sBkInit) := ⟨rfl, rfl, rfl, by decide +kernel, rfl, by decide +kernel, by decide +kernel⟩
theorem ok_bkInit {f : Addr} {fd : FuncData} (F : Fun K "__init__" "Book.__init__" sBkInit f fd) (L : Vals1 K mg) (T : BookTxt K mg C) : FnOk P w K mg base CX0 4 f fd ["self", "demands", "readers"] (spBkInit K C) := by
  have L' := L
  obtain ⟨B, _, _, ⟨tr, mr⟩, _, _, _, ⟨fD, fdD, FD, bD, gD⟩, ⟨fR, fdR, FR, bR, gR⟩⟩ := L'
  have GD : FnOk P w K mg base CX0 3 fD fdD ["value"] (spAreDem K) := ok_areDem FD L
  have GR : FnOk P w K mg base CX0 3 fR fdR ["value", "many"] (spIsRd K) := ok_isRd FR L
  refine F.ok scBkInit (fun vs H Q E h => ?_) (fun cdv A outer s H vs Q E hr h => ?_)
  · obtain ⟨x, dx, A, R, ds, us, rs, rfl, _⟩ := h
    rfl
  · obtain ⟨x, dx, A, R, ds, us, rs, rfl, hx, hA, hR, hP, ok, q⟩ := h
    refine ⟨_, pss_cons (ps_if (PW.pt (pw_or (pt_not (pt_val (pe_call GD hr (by rfl) gD FD.kp bD .nil pass0 (pa_cons (pv 1) pa_nil))))
          (pw_or (pt_not (pt_val (pe_callB call_isi (by rfl) B.isinstance (by decide +kernel) (pa_cons (pv 2) (pa_cons (pe_bltn (v := .ty "list") (by rfl) B.list (by decide +kernel) rfl) pa_nil)))))
          (pw_or1 (pt_cmpR op_gt (pe_callB call_len_seq (by rfl) B.len PySem.boot_len (pa_cons (pv 2) pa_nil)) (pe_glob (v := .int 6) (by rfl) mr ⟨_, rfl⟩) (nomark _)))))) (pss_one ps_never) pss_nil)
      (pss_cons (ps_for PassesOwn.never rfl (pi_enum (by rfl) B.enumerate (pa_cons (pv 2) pa_nil)) (pg_tup (by rfl) (pgs_cons (pg_name (i := 3) scBkInit.nd rfl (.inl rfl)) (pgs_cons (pg_name (i := 4) scBkInit.nd rfl (.inl rfl)) pgs_nil)))
        (pss_one (ps_if (pt_not (pt_val (pe_call GR hr (by rfl) gR FR.kp bR .nil pass0 (pa_cons (pv 4) (pa_cons (pe_callB call_len_seq (by rfl) B.len PySem.boot_len (pa_cons (pv 1) pa_nil)) pa_nil))))) (pss_one ps_never) pss_nil)))
      (pss_cons (ps_fld (pv 0) (pe_callTy call_list_of (by rfl) B.list (by decide +kernel) (pa_cons (pv 1) pa_nil)) rfl)
      (pss_one (ps_fld (pv 0) (pe_callTy call_list_of (by rfl) B.list (by decide +kernel) (pa_cons (pv 2) pa_nil)) rfl)))), ?_⟩
    refine ⟨_, rfl, _, rfl, .inr ⟨A, _, rfl, hA, bt_lst hA, by rw [List.length_map]; have := ok.n6; omega, fun y hy => ?_, fun H1 s1 => ?_⟩⟩
    · obtain ⟨i, _, rfl⟩ := List.mem_map.mp hy
      exact ⟨_, bt_int _⟩
    have e1 : (decide (1 ≤ (ds.map V.int).length ∧ (ds.map V.int).length ≤ 6) && (ds.map V.int).all amt) = true := by
      rw [List.length_map, decide_eq_true ⟨ok.n1, ok.n6⟩, Bool.true_and, List.all_map]
      exact List.all_eq_true.mpr fun d hd => amt_ok (ok.d6 d hd)
    rw [e1]
    refine ⟨true, rfl, iteF ?_⟩
    obtain ⟨_, k1⟩ := isT_of (bt_lst (s1.seq hR))
    refine ⟨_, rfl, _, .ty "list", _, _, _, rfl, .ty _, bt_lst (s1.seq hR), k1, _, rfl, ?_⟩
    show (if (!decide ("list" = "list")) = true then _ else _)
    refine iteNS rfl ?_
    have hul : us.length = rs.length := Paired.len hP
    have r6 := ok.r6
    refine ⟨_, rfl, R, us, rfl, .inl (s1.seq hR), _, _, rfl, rfl, _, rfl, ?_⟩
    show (if decide ((6 : Int) < ((us.length : Nat) : Int)) = true then _ else _)
    rw [decide_eq_false (by omega)]
    refine iteF ?_
    refine ⟨_, rfl, R, us, rfl, s1.seq hR, for_it (walk_enum (xs := us)) (fun i σ H' => ∃ y3 y4, σ = [some (.ref x), some (.ref A), some (.ref R), y3, y4] ∧ Same H H') ⟨none, none, rfl, s1⟩ (fun i σ H' _ ⟨_, _, _, e⟩ => e.seq hR) ?_ ?_⟩
    · rintro i v σ H2 H3 hi ⟨y3, y4, rfl, s2⟩ ⟨t, x1, x2, rfl, nt, rfl, f1, f2⟩
      obtain ⟨r, hr2, rd⟩ := Paired.at1 hP f2
      have sT : Same H (upd H2 t (.tup [x1, x2])) := s2.trans (sameU nt)
      refine ⟨t, _, rfl, .inl (.inl upd_same), rfl, _, _, rfl, _, _, rfl, rfl, ?_⟩
      refine ⟨_, rfl, _, rfl, A, _, rfl, .inl (sT.seq hA), x2, _, true, rfl, ?_, true, rfl, ?_⟩
      · rw [List.length_map]
        exact rdV_ok (rd.same sT) (ok.ok r (List.mem_of_getElem? hr2))
      · exact iteF ⟨_, _, rfl, sT⟩
    · rintro σ H2 ⟨y3, y4, rfl, s2⟩
      refine ⟨_, rfl, A, _, rfl, .inl (s2.seq hA), fun A' nA => ?_⟩
      have nxA : x ≠ A' := ne_of_none (s2 _ _ hx) nA
      have sA : Same H (upd H2 A' (.lst (ds.map V.int))) := s2.trans (sameU nA)
      refine ⟨_, rfl, x, C, dx, _, rfl, sA _ _ hx, T.cl, T.nD, by show 0 < 1000; decide, ?_⟩
      have st : ∀ b o, b ≠ x → H b = some o → upd (upd H2 A' (.lst (ds.map V.int))) x (.ins C dx (putF "_demands" (.ref A') [])) b = some o := fun b o nb e => by
        rw [upd_ne nb]; exact sA _ _ e
      have hR2 : SqL K (upd (upd H2 A' (.lst (ds.map V.int))) x (.ins C dx (putF "_demands" (.ref A') []))) R us := by
        rcases hR with (h | ⟨o, h⟩) | h
        · exact .inl (.inl (st _ _ (fun e => by rw [e, hx] at h; cases h) h))
        · exact .inl (.inr ⟨o, st _ _ (fun e => by rw [e, hx] at h; cases h) h⟩)
        · exact .inr h
      refine ⟨_, rfl, R, _, rfl, .inl hR2, fun R' nR => ?_⟩
      have nxR : x ≠ R' := fun e => by rw [← e, upd_same] at nR; cases nR
      have nR1 : upd H2 A' (.lst (ds.map V.int)) R' = none := by rw [upd_ne nxR.symm] at nR; exact nR
      have nAR : A' ≠ R' := fun e => by rw [← e, upd_same] at nR1; cases nR1
      refine ⟨_, rfl, x, C, dx, putF "_demands" (.ref A') [], rfl, ?_, T.cl, T.nR, (by show 1 < 1000; decide), ?_⟩
      · rw [upd_ne nxR, upd_same]
      refine q _ A' R' (fun b o nb e => ?_) (s2.free nA) (sA.free nR1) upd_same ?_ ?_
      · rw [upd_ne nb]
        have nbR : b ≠ R' := ne_of_none (sA _ _ e) nR1
        rw [upd_ne nbR]
        exact st _ _ nb e
      · rw [upd_ne nxA.symm, upd_ne nAR, upd_ne nxA.symm, upd_same]
      · rw [upd_ne nxR.symm, upd_same]
end
end Ew
namespace Ew
open PySem PySem.Spec PyProof.Rows L2
def spBkDem (K : PySem.W.Frag) (C : Addr) : Sp := fun vs H Q _ => ∃ (f x : Addr) (ds : List Int) (us : List V) (rs : List (Int × List Int)), vs = [.ref x] ∧ IsBook K C f H x ds us rs ∧ ∀ H' p, Same H H' → H p = none → H' p = some (.lst (ds.map V.int)) → Q (.ref p) H'
def spBkRd (K : PySem.W.Frag) (C : Addr) : Sp := fun vs H Q _ => ∃ (f x : Addr) (ds : List Int) (us : List V) (rs : List (Int × List Int)), vs = [.ref x] ∧ IsBook K C f H x ds us rs ∧ ∀ H' p, Same H H' → H p = none → H' p = some (.lst us) → Q (.ref p) H'
/-- no value of a built-in type is a book -/
def NoBook (K : PySem.W.Frag) (C : Addr) : Prop := ∀ T ∈ ["NoneType", "bool", "int", "str", "list", "tuple", "dict"], PySem.W.kitOne K (.type T) (.ref C) = some false ∧ PySem.W.notFirst K C (.type T) = true
def spBkEq (K : PySem.W.Frag) (C : Addr) : Sp := fun vs H Q _ => ∃ (f x : Addr) (y : V) (ds : List Int) (us : List V) (rs : List (Int × List Int)), vs = [.ref x, y] ∧ IsBook K C f H x ds us rs ∧
  ((∃ g z ds' us' rs', y = .ref z ∧ IsBook K C g H z ds' us' rs' ∧ Q (.bl (decide (ds = ds') && decide (rs = rs'))) H) ∨ (∃ T, Bt K H y T ∧ T ∈ ["NoneType", "bool", "int", "str", "list", "tuple", "dict"] ∧ Q (.bl false) H))
section
variable {P : Program} {w : World} {K : PySem.W.Frag} {mg : Str → Option Value} {base : Heap} {C : Addr}
theorem scBkDem : FnScope ["self"] ["self"] (defScope sBkDem) := ⟨rfl, rfl, rfl, by decide +kernel, rfl, by decide +kernel, by decide +kernel⟩
theorem ok_bkDem {f : Addr} {fd : FuncData} (F : Fun K "demands" "Book.demands" sBkDem f fd) (B : Bi mg) (T : BookTxt K mg C) : FnOk P w K mg base CX0 1 f fd ["self"] (spBkDem K C) := by
  refine F.ok scBkDem (fun vs H Q E h => ?_) (fun cdv A outer s H vs Q E hr h => ?_)
  · obtain ⟨f, x, ds, us, rs, rfl, _⟩ := h
    rfl
  · obtain ⟨f, x, ds, us, rs, rfl, ⟨dx, A, R, h1, h2, h3, h4, h5, h6⟩, q⟩ := h
    refine ⟨_, pss_one (ps_ret (pe_callTy call_list_of (by rfl) B.list (by decide +kernel) (pa_cons (pe_fld (pv 0) rfl) pa_nil))), ?_⟩
    refine ⟨_, rfl, x, C, dx, _, _, rfl, h1, T.cl, T.nD, bf_dem _ _, A, _, rfl, .inl (.inl (.inl h2)), fun p np => ?_⟩
    exact q _ p (sameU np) np upd_same
theorem scBkRd : FnScope ["self"] ["self"] (defScope sBkRd) := ⟨rfl, rfl, rfl, by decide +kernel, rfl, by decide +kernel, by decide +kernel⟩
theorem ok_bkRd {f : Addr} {fd : FuncData} (F : Fun K "readers" "Book.readers" sBkRd f fd) (B : Bi mg) (T : BookTxt K mg C) : FnOk P w K mg base CX0 1 f fd ["self"] (spBkRd K C) := by
  refine F.ok scBkRd (fun vs H Q E h => ?_) (fun cdv A outer s H vs Q E hr h => ?_)
  · obtain ⟨f, x, ds, us, rs, rfl, _⟩ := h
    rfl
  · obtain ⟨f, x, ds, us, rs, rfl, ⟨dx, A, R, h1, h2, h3, h4, h5, h6⟩, q⟩ := h
    refine ⟨_, pss_one (ps_ret (pe_callTy call_list_of (by rfl) B.list (by decide +kernel) (pa_cons (pe_fld (pv 0) rfl) pa_nil))), ?_⟩
    refine ⟨_, rfl, x, C, dx, _, _, rfl, h1, T.cl, T.nR, bf_rd _ _, R, _, rfl, .inl (.inl (.inl h3)), fun p np => ?_⟩
    exact q _ p (sameU np) np upd_same
theorem scBkEq : FnScope ["self", "other"] ["self", "other"] (defScope sBkEq) := ⟨rfl, rfl, rfl, by decide +kernel, rfl, by decide +kernel, by decide +kernel⟩
theorem ok_bkEq {f : Addr} {fd : FuncData} (F : Fun K "__eq__" "Book.__eq__" sBkEq f fd) (B : Bi mg) (T : BookTxt K mg C) (N : NoBook K C) : FnOk P w K mg base CX0 1 f fd ["self", "other"] (spBkEq K C) := by
  refine F.ok scBkEq (fun vs H Q E h => ?_) (fun cdv A outer s H vs Q E hr h => ?_)
  · obtain ⟨f, x, y, ds, us, rs, rfl, _⟩ := h
    rfl
  · obtain ⟨f, x, y, ds, us, rs, rfl, ⟨dx, A, R, h1, h2, h3, h4, h5, h6⟩, h⟩ := h
    refine ⟨_, pss_one (ps_ret (pe_and (pe_callB call_isi (by rfl) B.isinstance (by decide +kernel) (pa_cons (pv 1) (pa_cons (pe_glob (v := .ref C) (by rfl) T.mgC rfl) pa_nil)))
      (pe_and (pe_cmpR (op_eqD hr.units) (pe_fld (pv 0) rfl) (pe_fld (pv 1) rfl) (nomark _)) (pe_one (pe_cmpR (op_eqD hr.units) (pe_fld (pv 0) rfl) (pe_fld (pv 1) rfl) (nomark _)))))), ?_⟩
    rcases h with ⟨g, z, ds', us', rs', rfl, ⟨dx', A', R', k1, k2, k3, k4, k5, k6⟩, q⟩ | ⟨Ty, hT, hm, q⟩
    · refine ⟨_, rfl, _, .ref C, _, _, _, rfl, .own C, .base (.ins k1 T.ic.cl T.ic.ha T.ic.hn T.ic.htk T.ic.hm), T.ic.me, true, rfl, iteT ?_⟩
      refine ⟨_, rfl, x, C, dx, _, _, rfl, h1, T.cl, T.nD, bf_dem _ _, _, rfl, z, C, dx', _, _, rfl, k1, T.cl, T.nD, bf_dem _ _, _, _, dp_dI (.inl (.inl h2)), dp_dI (.inl (.inl k2)), shp_dI _, shp_dI _, _, rfl, ?_⟩
      rw [eqv_dI]
      by_cases e : ds = ds'
      · rw [decide_eq_true e]
        refine iteT ?_
        refine ⟨_, rfl, x, C, dx, _, _, rfl, h1, T.cl, T.nR, bf_rd _ _, _, rfl, z, C, dx', _, _, rfl, k1, T.cl, T.nR, bf_rd _ _, _, _, dp_dRs (.inl (.inl h3)) h6, dp_dRs (.inl (.inl k3)) k6, shp_dRs _, shp_dRs _, ?_⟩
        rw [eqv_dRs]
        rw [decide_eq_true e, Bool.true_and] at q
        exact q
      · rw [decide_eq_false e]
        refine iteF ?_
        rw [decide_eq_false e, Bool.false_and] at q
        exact q
    · exact ⟨_, rfl, y, .ref C, _, _, _, rfl, .own C, hT, (N Ty hm).1, false, rfl, iteF q⟩
end
end Ew
namespace Ew
open PySem PySem.Spec PyProof.Rows L2
abbrev sLaw : Stmt := (top 41)
theorem sameX {H H1 H2 : Hp} {f : Addr} (s : Same H H1) (n : H f = none) (e : Ext1 f H1 H2) : Same H H2 := fun b o h => e.1 b o (ne_of_none h n) (s b o h)
def spLaw (K : PySem.W.Frag) : Sp := fun vs H Q _ => ∃ (a : Addr) (ns : List Int), vs = [.ref a] ∧ SqL K H a (ns.map V.int) ∧ ns.length ≤ 63 ∧ ∀ H', Q (.bl true) H'
section
variable {P : Program} {w : World} {K : PySem.W.Frag} {mg : Str → Option Value} {base : Heap} {C : Addr}
/-- a new book, made of such lists -/
theorem init_of {Hb : Hp} {f x dx A1 R1 : Addr} {ds : List Int} {us : List V} {rs : List (Int × List Int)} {Q : VK} {E : XK} (hf : FeedAt Hb f) (nx : Hb x = none) (ndx : Hb dx = none) (nex : dx ≠ x) (hA : SqL K Hb A1 (ds.map V.int)) (hR : SqL K Hb R1 us)
    (hP : Paired (RdT K Hb) us rs) (ok : DsOk ds rs) (k : ∀ H4, Same Hb H4 → IsBook K C f H4 x ds us rs → Q .non H4) : spBkInit K C [.ref x, .ref A1, .ref R1] (upd (upd Hb dx (.own x)) x (.ins C dx [])) Q E := by
  have s0 : Same Hb (upd (upd Hb dx (.own x)) x (.ins C dx [])) := fun b o e => by
    rw [upd_ne (ne_of_none e nx), upd_ne (ne_of_none e ndx)]
    exact e
  refine ⟨x, dx, A1, R1, ds, us, rs, rfl, upd_same, s0.seq hA, s0.seq hR, L2.Paired.mapP hP fun _ _ z => z.same s0, ok, fun H4 A2 R2 keep nA nR hx hA2 hR2 => ?_⟩
  have s4 : Same Hb H4 := fun b o e => keep b o (ne_of_none e nx) (s0 b o e)
  have hf0 : FeedAt (upd (upd Hb dx (.own x)) x (.ins C dx [])) f := let ⟨d, t, e⟩ := hf; ⟨d, t, s0 _ _ e⟩
  exact k H4 s4 ⟨dx, A2, R2, hx, hA2, hR2, hf0.ne nA, hf0.ne nR, L2.Paired.mapP hP fun _ _ z => z.same s4⟩
end
end Ew
namespace Ew
open PySem PySem.Spec PyProof.Rows L2
abbrev sGone : Stmt := (top 31)
abbrev sPrs : Stmt := (top 32)
abbrev sPkPrs : Stmt := (top 8)
abbrev sBkLen : Stmt := (inClass (top 22) 3)
def spGone (K : PySem.W.Frag) : Sp := fun vs H Q _ => ∃ (f R : Addr) (us : List V), vs = [.ref f, .ref R] ∧ FeedAt H f ∧ R ≠ f ∧ SqL K H R us ∧ us.length ≤ 60 ∧
  ∀ H' p as, Ext1 f H H' → H p = none → H' p = some (.tup (as.map V.int)) → Asc us.length as → Q (.ref p) H'
def spPrs (K : PySem.W.Frag) : Sp := fun vs H Q _ => ∃ (R ab : Addr) (us : List V) (as : List Int), vs = [.ref R, .ref ab] ∧ SqL K H R us ∧ us.length ≤ 60 ∧ SqT K H ab (as.map V.int) ∧
  ∀ H' p, Same H H' → H p = none → H' p = some (.lst ((pres us.length as).map V.int)) → Q (.ref p) H'
def spPkPrs (K : PySem.W.Frag) (C : Addr) : Sp := fun vs H Q _ => ∃ (f x ab : Addr) (ds : List Int) (us : List V) (rs : List (Int × List Int)) (as : List Int), vs = [.ref x, .ref ab] ∧ IsBook K C f H x ds us rs ∧ us.length ≤ 60 ∧ SqT K H ab (as.map V.int) ∧
  ∀ H' p, Same H H' → H p = none → H' p = some (.lst ((pres us.length as).map V.int)) → Q (.ref p) H'
def spBkLen (K : PySem.W.Frag) (C : Addr) : Sp := fun vs H Q _ => ∃ (f x : Addr) (ds : List Int) (us : List V) (rs : List (Int × List Int)), vs = [.ref x] ∧ IsBook K C f H x ds us rs ∧ Q (.int ds.length) H
section
variable {P : Program} {w : World} {K : PySem.W.Frag} {mg : Str → Option Value} {base : Heap} {C : Addr}
theorem scBkLen : FnScope ["self"] ["self"] (defScope sBkLen) := ⟨rfl, rfl, rfl, by decide +kernel, rfl, by decide +kernel, by decide +kernel⟩
theorem ok_bkLen {f : Addr} {fd : FuncData} (F : Fun K "__len__" "Book.__len__" sBkLen f fd) (B : Bi mg) (T : BookTxt K mg C) : FnOk P w K mg base CX0 1 f fd ["self"] (spBkLen K C) := by
  refine F.ok scBkLen (fun vs H Q E h => ?_) (fun cdv A outer s H vs Q E hr h => ?_)
  · obtain ⟨f, x, ds, us, rs, rfl, _⟩ := h
    rfl
  · obtain ⟨f, x, ds, us, rs, rfl, ⟨dx, A, R, h1, h2, h3, h4, h5, h6⟩, q⟩ := h
    refine ⟨_, pss_one (ps_ret (pe_callB call_len_seq (by rfl) B.len PySem.boot_len (pa_cons (pe_fld (pv 0) rfl) pa_nil))), ?_⟩
    refine ⟨_, rfl, x, C, dx, _, _, rfl, h1, T.cl, T.nD, bf_dem _ _, A, _, rfl, .inl (.inl (.inl h2)), ?_⟩
    rw [List.length_map]
    exact q
theorem scGone : FnScope ["feed", "readers", "at"] ["feed", "readers"] (defScope sGone) := ⟨rfl, rfl, rfl, by decide +kernel, rfl, by decide +kernel, by decide +kernel⟩
theorem ok_gone {f : Addr} {fd : FuncData} (F : Fun K "_law_gone" "_law_gone" sGone f fd) (L : Low K mg) : FnOk P w K mg base CX0 2 f fd ["feed", "readers"] (spGone K) := by
  obtain ⟨B, _, ⟨fT, fdT, FT, bT, gT⟩, _⟩ := L
  have GT : FnOk P w K mg base CX0 1 fT fdT ["feed", "many"] spTake := ok_take FT B
  refine F.ok scGone (fun vs H Q E h => ?_) (fun cdv A outer s H vs Q E hr h => ?_)
  · obtain ⟨a, R, us, rfl, _⟩ := h
    rfl
  · obtain ⟨a, R, us, rfl, hF, nR, hL, hlen, q⟩ := h
    refine ⟨_, pss_one (ps_ret (pe_callTy call_tuple_of (by rfl) B.tuple (by decide +kernel) (pa_cons
      (pe_lc (own := [("at", 2)]) (g := gName 2) (tt := tTest (tOp rEq (tCall spTake [] E0 (tCons (tVar 0) (tCons (tC (.int 5)) tNil))) (tC (.int 0)))) (te := tVar 2) rfl scGone.nd (pi_range1 rfl B.range (pa_cons (pe_callB call_len_seq (by rfl) B.len PySem.boot_len (pa_cons (pv 1) pa_nil)) pa_nil))
        (blkOk_by (own := [("at", 2)]) (N := ["feed", "readers", "at"]) (sc := defScope sGone) (by decide +kernel))
        (fun _ _ _ _ _ => pg_name (i := 2) scGone.nd rfl (.inl rfl)) (fun _ _ _ _ _ => pts_one (pt_cmpR op_eq (pe_call GT hr (by rfl) gT FT.kp bT .nil pass0 (pa_cons (pv 0) (pa_cons pe_int pa_nil))) pe_int (nomark _))) (fun _ _ _ _ _ => pv 2)) pa_nil))), ?_⟩
    refine ⟨_, rfl, R, us, rfl, .inl hL, _, rfl, by omega, by omega, fun D nD => ?_⟩
    have fD : D ≠ a := hF.ne nD
    refine lc_range (lo := 0) (n := ((us.length : Nat) : Int).toNat) (fun j H' => ∃ acc : List Int, Ext1 a H H' ∧ H' D = some (.lst (acc.map V.int)) ∧ acc.Pairwise (· < ·) ∧ ∀ x ∈ acc, 0 ≤ x ∧ x < (j : Int)) ⟨[], (Ext1.refl hF).new nD, upd_same, .nil, fun x hx => by simp at hx⟩ ?_ ?_
    · rintro j H5 hj ⟨acc, e5, hD, pa, ba⟩
      refine ⟨rfl, _, rfl, a, 5, rfl, e5.feed, by decide, by decide, fun H6 v e6 v0 v1 => ⟨rfl, _, rfl, ite2 (fun _ => ?_) (fun _ => ?_)⟩⟩
      · have hD6 := e6.1 _ _ fD hD
        have hal := asc_len pa ba (by omega)
        have hj' : j < us.length := by simpa using hj
        refine ⟨_, rfl, _, hD6, szl (by rw [List.length_map]; omega), acc ++ [0 + (j : Int)], (e5.trans e6).own nD fD, by rw [upd_same, List.map_append]; rfl, ?_, ?_⟩
        · refine List.pairwise_append.mpr ⟨pa, List.pairwise_singleton _ _, fun x hx y hy => ?_⟩
          have := ba x hx
          rw [List.mem_singleton.mp hy]
          omega
        · intro x hx
          rcases List.mem_append.mp hx with h | h
          · have := ba x h
            omega
          · rw [List.mem_singleton.mp h]
            omega
      · exact ⟨acc, e5.trans e6, e6.1 _ _ fD hD, pa, fun x hx => by have := ba x hx; omega⟩
    · rintro H5 ⟨acc, e5, hD, pa, ba⟩
      refine ⟨D, _, rfl, .inl ⟨.inl (.inl hD), fun p np => ?_⟩⟩
      exact q _ p acc (e5.new np) (e5.free np) upd_same ⟨pa, fun x hx => by have := ba x hx; omega⟩
theorem pres_snoc (n : Nat) (as : List Int) : pres (n + 1) as = pres n as ++ (if ((n : Nat) : Int) ∈ as then [] else [((n : Nat) : Int)]) := by
  unfold pres
  rw [List.range_succ, List.filter_append, List.map_append]
  by_cases h : ((n : Nat) : Int) ∈ as <;> simp [h]
theorem pres_len (n : Nat) (as : List Int) : (pres n as).length ≤ n := by
  unfold pres
  rw [List.length_map]
  exact Nat.le_trans (List.length_filter_le _ _) (by rw [List.length_range]; exact Nat.le_refl _)
theorem scPrs : FnScope ["readers", "absent", "at"] ["readers", "absent"] (defScope sPrs) := ⟨rfl, rfl, rfl, by decide +kernel, rfl, by decide +kernel, by decide +kernel⟩
theorem ok_prs {f : Addr} {fd : FuncData} (F : Fun K "_law_present" "_law_present" sPrs f fd) (B : Bi mg) : FnOk P w K mg base CX0 1 f fd ["readers", "absent"] (spPrs K) := by
  refine F.ok scPrs (fun vs H Q E h => ?_) (fun cdv A outer s H vs Q E hr h => ?_)
  · obtain ⟨R, ab, us, as, rfl, _⟩ := h
    rfl
  · obtain ⟨R, ab, us, as, rfl, hL, hlen, hA, q⟩ := h
    refine ⟨_, pss_one (ps_ret
      (pe_lc (own := [("at", 2)]) (g := gName 2) (tt := tTest (tOp (rIn K true) (tVar 2) (tVar 1))) (te := tVar 2) rfl scPrs.nd (pi_range1 rfl B.range (pa_cons (pe_callB call_len_seq (by rfl) B.len PySem.boot_len (pa_cons (pv 0) pa_nil)) pa_nil))
        (blkOk_by (own := [("at", 2)]) (N := ["readers", "absent", "at"]) (sc := defScope sPrs) (by decide +kernel))
        (fun _ _ _ _ _ => pg_name (i := 2) scPrs.nd rfl (.inl rfl)) (fun _ _ _ _ _ => pts_one (pt_cmpR op_notIn_seq (pv 2) (pv 1) (by rfl))) (fun _ _ _ _ _ => pv 2))), ?_⟩
    refine ⟨_, rfl, R, us, rfl, .inl hL, _, rfl, by omega, by omega, fun D nD => ?_⟩
    refine lc_range (lo := 0) (n := ((us.length : Nat) : Int).toNat) (fun j H' => Same H H' ∧ H' D = some (.lst ((pres j as).map V.int))) ⟨sameU nD, upd_same⟩ ?_ ?_
    · rintro j H5 hj ⟨s5, hD⟩
      have hj' : j < us.length := by simpa using hj
      have ez : (0 : Int) + ((j : Nat) : Int) = ((j : Nat) : Int) := Int.zero_add _
      refine ⟨rfl, _, rfl, _, rfl, ab, _, rfl, .inr (sameT s5 hA), rfl, flat_ints as, _, rfl, ?_⟩
      rw [ez, if_pos rfl, inV_int, pres_snoc]
      have := pres_len j as
      by_cases h : ((j : Nat) : Int) ∈ as
      · rw [decide_eq_true h, if_pos h, List.append_nil]
        exact iteF ⟨s5, hD⟩
      · rw [decide_eq_false h, if_neg h]
        refine iteT ⟨_, rfl, _, hD, szl (by rw [List.length_map]; omega), same_own s5 nD, ?_⟩
        rw [upd_same, List.map_append]
        rfl
    · rintro H5 ⟨s5, hD⟩
      exact q H5 D s5 nD (by rw [Int.toNat_natCast] at hD; exact hD)
theorem scPkPrs : FnScope ["book", "absent", "reader"] ["book", "absent"] (defScope sPkPrs) := ⟨rfl, rfl, rfl, by decide +kernel, rfl, by decide +kernel, by decide +kernel⟩
theorem ok_pkPrs {f : Addr} {fd : FuncData} (F : Fun K "present_readers" "present_readers" sPkPrs f fd) (B : Bi mg) (T : BookTxt K mg C) : FnOk P w K mg base CX0 2 f fd ["book", "absent"] (spPkPrs K C) := by
  obtain ⟨fR, fdR, FR, bR, mR⟩ := T.rd
  have GR : FnOk P w K mg base CX0 1 fR fdR ["self"] (spBkRd K C) := ok_bkRd FR B T
  refine F.ok scPkPrs (fun vs H Q E h => ?_) (fun cdv A outer s H vs Q E hr h => ?_)
  · obtain ⟨f, x, ab, ds, us, rs, as, rfl, _⟩ := h
    rfl
  · obtain ⟨f, x, ab, ds, us, rs, as, rfl, hb, hlen, hA, q⟩ := h
    refine ⟨_, pss_one (ps_ret
      (pe_lc (own := [("reader", 2)]) (g := gName 2) (tt := tTest (tOp (rIn K true) (tVar 2) (tVar 1))) (te := tVar 2) rfl scPkPrs.nd (pi_range1 rfl B.range (pa_cons (pe_callB call_len_seq (by rfl) B.len PySem.boot_len (pa_cons (pe_meth0 (pv 0) T.cl mR GR hr bR .nil pass0) pa_nil)) pa_nil))
        (blkOk_by (own := [("reader", 2)]) (N := ["book", "absent", "reader"]) (sc := defScope sPkPrs) (by decide +kernel))
        (fun _ _ _ _ _ => pg_name (i := 2) scPkPrs.nd rfl (.inl rfl)) (fun _ _ _ _ _ => pts_one (pt_cmpR op_notIn_seq (pv 2) (pv 1) (by rfl))) (fun _ _ _ _ _ => pv 2))), ?_⟩
    obtain ⟨dx, Ab, Rb, hx, _⟩ := id hb
    refine ⟨_, rfl, x, dx, _, rfl, hx, bf_no _ _ (by decide +kernel) (by decide +kernel), f, x, ds, us, rs, rfl, hb, fun H1 p s1 np hp => ?_⟩
    refine ⟨p, us, rfl, .inl (.inl (.inl hp)), _, rfl, by omega, by omega, fun D nD => ?_⟩
    refine lc_range (lo := 0) (n := ((us.length : Nat) : Int).toNat) (fun j H' => Same H1 H' ∧ H' D = some (.lst ((pres j as).map V.int))) ⟨sameU nD, upd_same⟩ ?_ ?_
    · rintro j H5 hj ⟨s5, hD⟩
      have hj' : j < us.length := by simpa using hj
      have ez : (0 : Int) + ((j : Nat) : Int) = ((j : Nat) : Int) := Int.zero_add _
      refine ⟨rfl, _, rfl, _, rfl, ab, _, rfl, .inr (sameT s5 (sameT s1 hA)), rfl, flat_ints as, _, rfl, ?_⟩
      rw [ez, if_pos rfl, inV_int, pres_snoc]
      have := pres_len j as
      by_cases h : ((j : Nat) : Int) ∈ as
      · rw [decide_eq_true h, if_pos h, List.append_nil]
        exact iteF ⟨s5, hD⟩
      · rw [decide_eq_false h, if_neg h]
        refine iteT ⟨_, rfl, _, hD, szl (by rw [List.length_map]; omega), same_own s5 nD, ?_⟩
        rw [upd_same, List.map_append]
        rfl
    · rintro H5 ⟨s5, hD⟩
      exact q H5 D (s1.trans s5) (s1.free nD) (by rw [Int.toNat_natCast] at hD; exact hD)
end
end Ew
namespace Ew
open PySem PySem.Spec PyProof.Rows L2
abbrev sPkRow : Stmt := (top 6)
abbrev sPkRows : Stmt := (top 7)
def spPkRow (K : PySem.W.Frag) : Sp := fun vs H Q _ => ∃ (P : Addr → Prop) (v u : V) (d : PyData) (r : Int × List Int) (n : Int), vs = [v, u, .int n] ∧ Dq K P H v d ∧ RdT K H u r ∧ RdOk n r ∧ n ≤ 60 ∧ 0 ≤ n ∧ ∀ H', Same H H' → Q (.bl (isRowD r d)) H'
/-- a value of which it is told whether it is rows: data, or the book itself -/
def Val (K : PySem.W.Frag) (P : Addr → Prop) (H : Hp) (x : Addr) (v : V) (d : Option PyData) : Prop := match d with
  | some d => Dq K P H v d
  | none => v = .ref x
def areV (rs : List (Int × List Int)) : Option PyData → Bool
  | some d => areRowsD rs d
  | none => false
def spPkRows (K : PySem.W.Frag) (C : Addr) : Sp := fun vs H Q _ => ∃ (P : Addr → Prop) (f x : Addr) (v : V) (d : Option PyData) (ds : List Int) (us : List V) (rs : List (Int × List Int)), vs = [.ref x, v] ∧ IsBook K C f H x ds us rs ∧ DsOk ds rs ∧ Val K P H x v d ∧
  ∀ H', Same H H' → Q (.bl (areV rs d)) H'
/-- what is known of the class -/
structure Kl (K : PySem.W.Frag) (C : Addr) : Prop where
  len : ∃ f fd, Fun K "__len__" "Book.__len__" sBkLen f fd ∧ Binds K fd ["self"] [] ∧ Meth K C "__len__" f
  nl : PySem.W.kitOne K (.ref C) (.type "list") = some false
theorem asc_dat {K : PySem.W.Frag} {P : Addr → Prop} {H : Hp} {n : Int} : ∀ {vs : List V} {ds : List PyData} {l : Int}, DqA K P H vs ds → ascV n l vs = (match intsOf ds with | some w => ascI n l w | none => false)
  | [], [], l, _ => rfl
  | v :: vs, d :: ds, l, .cons a t => by
    cases a with
    | int i =>
      have ih := asc_dat (n := n) (l := i) t
      show (decide (l < i) && decide (i < n) && ascV n i vs) = (match (intsOf ds).map (i :: ·) with | some w => ascI n l w | none => false)
      rw [ih]
      cases intsOf ds with
      | none => exact Bool.and_false _
      | some w => rfl
    | _ => rfl
theorem Val.same {K : PySem.W.Frag} {P : Addr → Prop} {H H' : Hp} {x : Addr} {v : V} {d : Option PyData} (s : Same H H') (h : Val K P H x v d) : Val K P H' x v d := by
  cases d with
  | none => exact h
  | some d => exact Dq.over (over_same s) h
section
variable {P : Program} {w : World} {K : PySem.W.Frag} {mg : Str → Option Value} {base : Heap} {C : Addr}
theorem scPkRow : FnScope ["value", "reader", "many", "limit", "may", "work"] ["value", "reader", "many"] (defScope sPkRow) := ⟨rfl, rfl, rfl, by decide +kernel, rfl, by decide +kernel, by decide +kernel⟩
theorem ok_pkRow {f : Addr} {fd : FuncData} (F : Fun K "is_row" "is_row" sPkRow f fd) (L : Vals1 K mg) : FnOk P w K mg base CX0 3 f fd ["value", "reader", "many"] (spPkRow K) := by
  have L' := L
  obtain ⟨B, _, _, _, _, _, ⟨fC, fdC, FC, bC, gC⟩, _⟩ := L'
  have GC : FnOk P w K mg base CX0 2 fC fdC ["value", "many"] (spIsAsc K) := ok_isAsc FC L
  refine F.ok scPkRow (fun vs H Q E h => ?_) (fun cdv A outer s H vs Q E hr h => ?_)
  · obtain ⟨P', v, u, d, r, n, rfl, _⟩ := h
    rfl
  · obtain ⟨P', v, u, d, r, n, rfl, hd, ⟨t, m, rfl, hT, hM⟩, ok, hn, hn0, q⟩ := h
    refine ⟨_, pss_cons (ps_asg (pv 1) (pg_tup (by rfl) (pgs_cons (pg_name (i := 3) scPkRow.nd rfl (.inl rfl)) (pgs_cons (pg_name (i := 4) scPkRow.nd rfl (.inr rfl)) pgs_nil))))
      (pss_cons (ps_if (PW.pt (pw_or (pt_not (pt_val (pe_call GC hr (by rfl) gC FC.kp bC .nil pass0 (pa_cons (pv 0) (pa_cons (pv 2) pa_nil)))))
          (pw_or1 (pt_cmpR op_gt (pe_callB call_len_seq (by rfl) B.len PySem.boot_len (pa_cons (pv 0) pa_nil)) (pv 3) (nomark _))))) (pss_one (ps_ret pe_bl)) pss_nil)
      (pss_one (ps_ret (pe_callB (cr_all rfl) (by rfl) B.all (by decide +kernel) (pa_cons
        (pe_lc (own := [("work", 5)]) (g := gName 5) (tt := tYes) (te := tOp (rIn K false) (tVar 5) (tVar 4)) rfl scPkRow.nd (pi_tup (pv 0)) (blkOk_by (own := [("work", 5)]) (N := ["value", "reader", "many", "limit", "may", "work"]) (sc := defScope sPkRow) (by decide +kernel))
          (fun _ _ _ _ _ => pg_name (i := 5) scPkRow.nd rfl (.inl rfl)) (fun _ _ _ _ _ => pts_nil) (fun _ _ _ _ _ => pe_cmpR op_in_seq (pv 5) (pv 4) (by rfl))) pa_nil))))), ?_⟩
    refine ⟨_, rfl, t, _, rfl, hT, rfl, _, _, rfl, _, _, rfl, rfl, ?_⟩
    cases hd with
    | @tup a xs es hS ha =>
      refine ⟨_, rfl, _, rfl, .ref a, n, rfl, .inr ⟨a, xs, rfl, hS, dqA_ty ha, ?_⟩⟩
      rw [asc_dat ha]
      cases he : intsOf es with
      | none =>
        have e : isRowD r (.tuple es) = false := by
          unfold isRowD
          rw [show rowOf (.tuple es) = none from he]
        rw [e] at q
        exact ⟨_, rfl, q H (Same.refl H)⟩
      | some w =>
        obtain ⟨e1, e2⟩ := ints_of ha he
        subst e1
        have e : isRowD r (.tuple es) = (ascI n (-1) w && (decide ((w.length : Int) ≤ r.1) && w.all fun x => decide (x ∈ r.2))) := by
          unfold isRowD
          rw [show rowOf (.tuple es) = some w from he]
          exact isRow_asc ok
        rw [e] at q
        show (∃ b, V.bl (ascI n (-1) w) = .bl b ∧ _)
        cases hA : ascI n (-1) w with
        | false =>
          rw [hA] at q
          exact ⟨_, rfl, q H (Same.refl H)⟩
        | true =>
          rw [hA] at q
          have hw := ascI_iff.mp hA
          have hl := asc_len (lo := 0) (n := n) hw.1 (fun x hx => by have := hw.2 x hx; omega) hn0
          refine ⟨true, rfl, iteF ?_⟩
          refine ⟨_, rfl, a, _, rfl, .inr hS, _, rfl, _, _, rfl, rfl, _, rfl, ?_⟩
          rw [List.length_map]
          have e5 : decide ((w.length : Int) ≤ r.1) = !decide (r.1 < (w.length : Int)) := by
            by_cases h : r.1 < (w.length : Int)
            · rw [decide_eq_true h, decide_eq_false (by omega)]; rfl
            · rw [decide_eq_false h, decide_eq_true (by omega)]; rfl
          rw [e5] at q
          refine ite2 (fun c => ?_) (fun c => ?_)
          · rw [c] at q
            exact q H (Same.refl H)
          · rw [Bool.eq_false_iff.mpr c] at q
            refine ⟨_, rfl, a, rfl, ⟨_, hS⟩, fun D nD => ?_⟩
            refine lc_tup (K := K) (a := a) (xs := w.map V.int) (fun i H' => Same H H' ∧ H' D = some (.lst (((w.take i).map fun x => decide (x ∈ r.2)).map V.bl))) ⟨sameU nD, upd_same⟩ (fun i H' _ ⟨e, _⟩ => sameT e hS) ?_ ?_
            · rintro i x H1 hx ⟨s1, hD⟩
              rw [List.getElem?_map] at hx
              obtain ⟨z, hz, rfl⟩ := Option.map_eq_some_iff.mp hx
              refine ⟨rfl, ?_⟩
              dsimp only [tYes]
              refine iteT ?_
              refine ⟨_, rfl, _, rfl, m, _, rfl, .inr (sameT s1 hM), rfl, flat_ints r.2, _, hD, szl (by rw [List.length_map, List.length_map, List.length_take]; omega), same_own s1 nD, ?_⟩
              rw [if_neg (by decide), inV_int, upd_same, take_more hz, List.map_append, List.map_append]
              rfl
            · rintro H1 ⟨s1, hD⟩
              rw [List.length_map, List.take_length] at hD
              refine ⟨D, _, rfl, .inl (.inl hD), ?_⟩
              have e2 : (w.map fun x => decide (x ∈ r.2)).all id = w.all fun x => decide (x ∈ r.2) := by rw [List.all_map]; rfl
              rw [e2]
              exact q H1 s1
    | non => exact ⟨_, rfl, _, rfl, _, n, rfl, .inl ⟨_, dq_bt (P := P') .non, (by simp [tyD]), _, rfl, q H (Same.refl H)⟩⟩
    | bl b => exact ⟨_, rfl, _, rfl, _, n, rfl, .inl ⟨_, dq_bt (P := P') (.bl b), (by simp [tyD]), _, rfl, q H (Same.refl H)⟩⟩
    | int b => exact ⟨_, rfl, _, rfl, _, n, rfl, .inl ⟨_, dq_bt (P := P') (.int b), (by simp [tyD]), _, rfl, q H (Same.refl H)⟩⟩
    | str b => exact ⟨_, rfl, _, rfl, _, n, rfl, .inl ⟨_, dq_bt (P := P') (.str b), (by simp [tyD]), _, rfl, q H (Same.refl H)⟩⟩
    | lst p e a => exact ⟨_, rfl, _, rfl, _, n, rfl, .inl ⟨_, dq_bt (P := P') (.lst p e a), (by simp [tyD]), _, rfl, q H (Same.refl H)⟩⟩
    | dic e => exact ⟨_, rfl, _, rfl, _, n, rfl, .inl ⟨_, dq_bt (P := P') (.dic e), (by simp [tyD]), _, rfl, q H (Same.refl H)⟩⟩
theorem zip_at {α β : Type} : ∀ {xs : List α} {ys : List β} {i : Nat} {x : α} {y : β}, xs[i]? = some x → ys[i]? = some y → (xs.zip ys)[i]? = some (x, y)
  | [], _, _, _, _, h, _ => by simp at h
  | _ :: _, [], _, _, _, _, h => by simp at h
  | a :: xs, b :: ys, 0, x, y, h1, h2 => by
    have e1 : a = x := Option.some.inj h1
    have e2 : b = y := Option.some.inj h2
    subst e1; subst e2
    rfl
  | a :: xs, b :: ys, i + 1, x, y, h1, h2 => zip_at (xs := xs) (ys := ys) (i := i) (by simpa using h1) (by simpa using h2)
theorem scPkRows : FnScope ["book", "value", "readers", "row", "reader"] ["book", "value"] (defScope sPkRows) := ⟨rfl, rfl, rfl, by decide +kernel, rfl, by decide +kernel, by decide +kernel⟩
theorem ok_pkRows {f fW : Addr} {fd fdW : FuncData} (F : Fun K "is_rows" "is_rows" sPkRows f fd) (L : Vals1 K mg) (T : BookTxt K mg C) (Kk : Kl K C) (FW : Fun K "is_row" "is_row" sPkRow fW fdW) (bW : Binds K fdW ["value", "reader", "many"] []) (gW : mg "is_row" = some (.ref fW)) :
    FnOk P w K mg base CX0 4 f fd ["book", "value"] (spPkRows K C) := by
  have B := L.bi
  obtain ⟨fR, fdR, FR, bR, mR⟩ := T.rd
  obtain ⟨fL, fdL, FL, bL, mL⟩ := Kk.len
  have GR : FnOk P w K mg base CX0 1 fR fdR ["self"] (spBkRd K C) := ok_bkRd FR B T
  have GL : FnOk P w K mg base CX0 1 fL fdL ["self"] (spBkLen K C) := ok_bkLen FL B T
  have GW : FnOk P w K mg base CX0 3 fW fdW ["value", "reader", "many"] (spPkRow K) := ok_pkRow FW L
  refine F.ok scPkRows (fun vs H Q E h => ?_) (fun cdv A outer s H vs Q E hr h => ?_)
  · obtain ⟨P', f, x, v, d, ds, us, rs, rfl, _⟩ := h
    rfl
  · obtain ⟨P', f, x, v, d, ds, us, rs, rfl, hb, ok, hv, q⟩ := h
    have hr1 := hr.mono (show 1 ≤ 3 by decide)
    have hr2 := hr.mono (show 2 ≤ 3 by decide)
    refine ⟨_, pss_cons (ps_set (i := 2) scPkRows.nd rfl (.inl rfl) (pe_meth0 (pv 0) T.cl mR GR hr1 bR .nil pass0))
      (pss_cons (ps_if (PW.pt (pw_or (pt_not (pt_val (pe_callB call_isi (by rfl) B.isinstance (by decide +kernel) (pa_cons (pv 1) (pa_cons (pe_bltn (v := .ty "list") (by rfl) B.list (by decide +kernel) rfl) pa_nil)))))
          (pw_or1 (pt_cmpR op_ne (pe_callB call_len_seq (by rfl) B.len PySem.boot_len (pa_cons (pv 1) pa_nil)) (pe_callB call_len_seq (by rfl) B.len PySem.boot_len (pa_cons (pv 2) pa_nil)) (nomark _))))) (pss_one (ps_ret pe_bl)) pss_nil)
      (pss_one (ps_ret (pe_callB (cr_all rfl) (by rfl) B.all (by decide +kernel) (pa_cons
        (pe_lc (own := [("row", 3), ("reader", 4)]) (g := gTup K 2 (gCons (gName 3) (gCons (gName 4) gNil))) (tt := tYes) (te := tCall (spPkRow K) [] E0 (tCons (tVar 3) (tCons (tVar 4) (tCons (tCB (fun xs H Q => ∃ a dx fs, xs = [.ref a] ∧ H a = some (.ins C dx fs) ∧ spBkLen K C [.ref a] H (fun v H' => ∃ k : Int, v = .int k ∧ (0 ≤ k ∧ k < 2 ^ 63) ∧ Q (.int k) H') E0) (tCons (tVar 0) tNil)) tNil)))) rfl scPkRows.nd (pi_zip (by rfl) B.zip (pa_cons (pv 1) (pa_cons (pv 2) pa_nil)))
          (blkOk_by (own := [("row", 3), ("reader", 4)]) (N := ["book", "value", "readers", "row", "reader"]) (sc := defScope sPkRows) (by decide +kernel))
          (fun _ _ _ _ _ => pg_tup (by rfl) (pgs_cons (pg_name (i := 3) scPkRows.nd rfl (.inl rfl)) (pgs_cons (pg_name (i := 4) scPkRows.nd rfl (.inl rfl)) pgs_nil))) (fun _ _ _ _ _ => pts_nil)
          (fun _ _ _ _ _ => pe_call GW hr (by rfl) gW FW.kp bW .nil pass0 (pa_cons (pv 3) (pa_cons (pv 4) (pa_cons (pe_callB (call_lenOwn GL hr2 mL.at_ mL.fn bL) (by rfl) B.len PySem.boot_len (pa_cons (pv 0) pa_nil)) pa_nil))))) pa_nil))))), ?_⟩
    obtain ⟨dx, Ab, Rb, hx, _⟩ := id hb
    refine ⟨_, rfl, x, dx, _, rfl, hx, bf_no _ _ (by decide +kernel) (by decide +kernel), f, x, ds, us, rs, rfl, hb, fun H1 p s1 np hp => ?_⟩
    have hv1 := hv.same s1
    have hb1 := hb.same s1
    have q1 := fun H' (s : Same H1 H') => q H' (s1.trans s)
    clear q
    cases d with
    | none =>
      cases (show v = .ref x from hv1)
      obtain ⟨dx1, A1, R1, hx1, _⟩ := id hb1
      refine ⟨_, rfl, _, .ty "list", _, _, _, rfl, .ty _, .base (.ins hx1 T.ic.cl T.ic.ha T.ic.hn T.ic.htk T.ic.hm), Kk.nl, false, rfl, ?_⟩
      exact q1 H1 (Same.refl H1)
    | some d =>
      have hd : Dq K P' H1 v d := hv1
      obtain ⟨_, k1⟩ := isT_of (dq_bt hd)
      refine ⟨_, rfl, v, .ty "list", _, _, _, rfl, .ty _, dq_bt hd, k1, _, rfl, ?_⟩
      cases hd with
      | @lst a xs es pa ea ha =>
        show (if (!decide ("list" = "list")) = true then _ else _)
        refine iteNS rfl ?_
        have hul : us.length = rs.length := Paired.len hb1.choose_spec.choose_spec.choose_spec.2.2.2.2.2
        have hxl := ha.len
        refine ⟨_, rfl, a, xs, rfl, .inl (.inl (.inl ea)), _, rfl, p, us, rfl, .inl (.inl (.inl hp)), rfl, _, rfl, ?_⟩
        have r6 := ok.r6
        by_cases el : xs.length = us.length
        · have e1 : decide (V.int ((xs.length : Nat) : Int) = V.int ((us.length : Nat) : Int)) = true := decide_eq_true (by rw [el])
          rw [e1]
          refine iteF ?_
          refine ⟨_, rfl, _, rfl, a, p, xs, us, rfl, .inl (.inl ea), .inl (.inl hp), fun D nD => ?_⟩
          obtain ⟨dx1, A1, R1, hx1, _, _, _, _, rd1⟩ := id hb1
          refine lc_it (walk_zip (xs := xs) (ys := us) (n := xs.length) (by omega)) (fun i H' => Same H1 H' ∧ H' D = some (.lst ((((es.zip rs).take i).map fun z => isRowD z.2 z.1).map V.bl))) ⟨sameU nD, upd_same⟩ (fun i H' _ ⟨e, _⟩ => ⟨.inl (.inl (e _ _ ea)), .inl (.inl (e _ _ hp))⟩) ?_ ?_
          · rintro i y H2 H3 hi ⟨s2, hD⟩ ⟨tt, x1, x2, rfl, nt, rfl, f1, f2⟩
            obtain ⟨e, he, hde⟩ := ha.at1 f1
            obtain ⟨r, hr2, rd⟩ := Paired.at1 rd1 f2
            have sT : Same H1 (upd H2 tt (.tup [x1, x2])) := s2.trans (sameU nt)
            refine ⟨tt, _, rfl, .inl (.inl upd_same), rfl, _, _, rfl, _, _, rfl, rfl, rfl, ?_⟩
            dsimp only [tYes]
            refine iteT ?_
            have hD2 := sameU (o := .tup [x1, x2]) nt _ _ hD
            generalize upd H2 tt (.tup [x1, x2]) = H4 at *
            obtain ⟨dx4, A4, R4, hx4, _⟩ := id (hb1.same sT)
            refine ⟨_, rfl, _, rfl, _, rfl, x, dx4, _, rfl, hx4, f, x, ds, us, rs, rfl, hb1.same sT, _, rfl, ⟨by omega, by have := ok.n6; omega⟩, ?_⟩
            refine ⟨P', x1, x2, e, r, _, rfl, hde.over (over_same sT), rd.same sT, ok.ok r (List.mem_of_getElem? hr2), by have := ok.n6; omega, by omega, fun H5 s5 => ?_⟩
            refine ⟨_, s5 _ _ hD2, szl (by rw [List.length_map, List.length_map, List.length_take, List.length_zip]; omega), same_own (sT.trans s5) nD, ?_⟩
            rw [upd_same, take_more (zip_at he hr2), List.map_append, List.map_append]
            rfl
          · rintro H2 ⟨s2, hD⟩
            have hz : (es.zip rs).length = xs.length := by rw [List.length_zip]; omega
            rw [← hz, List.take_length] at hD
            refine ⟨D, _, rfl, .inl (.inl hD), ?_⟩
            have e2 : ((es.zip rs).map fun z => isRowD z.2 z.1).all id = areV rs (some (.list es)) := by
              show _ = (decide (es.length = rs.length) && (es.zip rs).all fun p => isRowD p.2 p.1)
              rw [List.all_map, decide_eq_true (by omega), Bool.true_and]
              rfl
            rw [e2]
            exact q1 H2 s2
        · have e1 : decide (V.int ((xs.length : Nat) : Int) = V.int ((us.length : Nat) : Int)) = false := decide_eq_false fun h => el (by have := V.int.inj h; omega)
          rw [e1]
          refine iteT ?_
          have e2 : areV rs (some (.list es)) = false := by
            show (decide (es.length = rs.length) && _) = false
            rw [decide_eq_false (by omega), Bool.false_and]
          rw [e2] at q1
          exact q1 H1 (Same.refl H1)
      | non => exact q1 H1 (Same.refl H1)
      | bl b => exact q1 H1 (Same.refl H1)
      | int b => exact q1 H1 (Same.refl H1)
      | str b => exact q1 H1 (Same.refl H1)
      | tup _ _ => exact q1 H1 (Same.refl H1)
      | dic e => exact q1 H1 (Same.refl H1)
end
end Ew
namespace Ew
open PySem PySem.Spec PyProof.Rows L2
abbrev sPkTimes : Stmt := (top 9)
abbrev sPkGood : Stmt := (top 10)
abbrev sPkEnough : Stmt := (top 11)
def retScope2 (s : Stmt) : Scope := match defBody s with
  | [_, .Return (some (.ListComp _ _ sc _)) _] => sc
  | _ => { kind := .function, names := [], isGenerator := false, isCoroutine := false }
theorem pres_get {ws : List (List Int)} {as : List Int} : ∀ {j : Nat}, j ≤ ws.length → (pres j as).map (fun i => ws.getD i.toNat []) = presR as 0 (ws.take j)
  | 0, _ => rfl
  | j + 1, h => by
    have ih := pres_get (ws := ws) (as := as) (j := j) (by omega)
    have hj : j < ws.length := h
    have hg : ws[j]? = some ws[j] := List.getElem?_eq_getElem hj
    rw [pres_snoc, List.map_append, ih, take_more hg, presR_snoc, List.length_take]
    have e : min j ws.length = j := by omega
    rw [e, Nat.zero_add]
    by_cases hm : ((j : Nat) : Int) ∈ as
    · rw [if_pos hm, if_pos hm]; rfl
    · rw [if_neg hm, if_neg hm]
      congr 1
      show [ws.getD ((j : Nat) : Int).toNat []] = [ws[j]]
      rw [Int.toNat_natCast]
      simp [List.getD, hg]
theorem pres_lt {n : Nat} {as : List Int} {x : Int} (h : x ∈ pres n as) : 0 ≤ x ∧ x < n := by
  unfold pres at h
  obtain ⟨k, hk, rfl⟩ := List.mem_map.mp h
  have := List.mem_range.mp (List.mem_filter.mp hk).1
  omega
/-- rows of a book as a law hands them in -/
structure RowsAt (K : PySem.W.Frag) (H : Hp) (W : Addr) (vw : List V) (ws : List (List Int)) (n : Nat) : Prop where
  at_ : SqL K H W vw
  rows : Paired (RowT K H) vw ws
  len : ws.length = n
theorem RowsAt.same {K : PySem.W.Frag} {H H' : Hp} {W : Addr} {vw ws n} (h : RowsAt K H W vw ws n) (s : Same H H') : RowsAt K H' W vw ws n := ⟨s.seq h.at_, L2.Paired.mapP h.rows fun _ _ z => z.same s, h.len⟩
def spPkTimes (K : PySem.W.Frag) (C : Addr) : Sp := fun vs H Q _ => ∃ (f x W ab : Addr) (ds : List Int) (us : List V) (rs : List (Int × List Int)) (vw : List V) (ws : List (List Int)) (as : List Int), vs = [.ref x, .ref W, .ref ab] ∧ IsBook K C f H x ds us rs ∧ DsOk ds rs ∧
  RowsAt K H W vw ws rs.length ∧ SqT K H ab (as.map V.int) ∧ ∀ H' p, Same H H' → H p = none → H' p = some (.lst ((times (presR as 0 ws) ds.length).map V.int)) → Q (.ref p) H'
def spPkGood (K : PySem.W.Frag) (C : Addr) : Sp := fun vs H Q _ => ∃ (f x W : Addr) (ds : List Int) (us : List V) (rs : List (Int × List Int)) (vw : List V) (ws : List (List Int)), vs = [.ref x, .ref W] ∧ IsBook K C f H x ds us rs ∧ DsOk ds rs ∧
  RowsAt K H W vw ws rs.length ∧ ∀ H', Same H H' → Q (.bl (decide (times ws ds.length = ds))) H'
def enB (ds ts : List Int) : Bool := (ts.zip ds).all fun p => decide (p.2 ≤ p.1)
def spPkEnough (K : PySem.W.Frag) (C : Addr) : Sp := fun vs H Q _ => ∃ (f x W : Addr) (ds : List Int) (us : List V) (rs : List (Int × List Int)) (vw : List V) (ws : List (List Int)), vs = [.ref x, .ref W] ∧ IsBook K C f H x ds us rs ∧ DsOk ds rs ∧
  RowsAt K H W vw ws rs.length ∧ ∀ H', Same H H' → Q (.bl (enB ds (times ws ds.length))) H'
section
variable {P : Program} {w : World} {K : PySem.W.Frag} {mg : Str → Option Value} {base : Heap} {C : Addr}
theorem IsBook.len {f x : Addr} {H : Hp} {ds us rs} (h : IsBook K C f H x ds us rs) : us.length = rs.length := Paired.len h.choose_spec.choose_spec.choose_spec.2.2.2.2.2
theorem scPkTimes : FnScope ["book", "rows", "absent", "present", "reader", "work", "row"] ["book", "rows", "absent"] (defScope sPkTimes) := ⟨rfl, rfl, rfl, by decide +kernel, rfl, by decide +kernel, by decide +kernel⟩
theorem ok_pkTimes {f fP : Addr} {fd fdP : FuncData} (F : Fun K "times_read" "times_read" sPkTimes f fd) (B : Bi mg) (T : BookTxt K mg C) (Kk : Kl K C) (FP : Fun K "present_readers" "present_readers" sPkPrs fP fdP) (bP : Binds K fdP ["book", "absent"] []) (gP : mg "present_readers" = some (.ref fP)) :
    FnOk P w K mg base CX0 3 f fd ["book", "rows", "absent"] (spPkTimes K C) := by
  obtain ⟨fL, fdL, FL, bL, mL⟩ := Kk.len
  have GL : FnOk P w K mg base CX0 1 fL fdL ["self"] (spBkLen K C) := ok_bkLen FL B T
  have GP : FnOk P w K mg base CX0 2 fP fdP ["book", "absent"] (spPkPrs K C) := ok_pkPrs FP B T
  refine F.ok scPkTimes (fun vs H Q E h => ?_) (fun cdv A outer s H vs Q E hr h => ?_)
  · obtain ⟨f, x, W, ab, ds, us, rs, vw, ws, as, rfl, _⟩ := h
    rfl
  · obtain ⟨f, x, W, ab, ds, us, rs, vw, ws, as, rfl, hb, ok, hW, hA, q⟩ := h
    refine ⟨_, pss_cons (ps_set (i := 3) scPkTimes.nd rfl (.inr rfl)
        (pe_lc (own := [("reader", 4)]) (g := gName 4) (tt := tYes) (te := tOp (rIxL K) (tVar 1) (tVar 4)) rfl scPkTimes.nd (pi_list (pe_call GP hr (by rfl) gP FP.kp bP .nil pass0 (pa_cons (pv 0) (pa_cons (pv 2) pa_nil))))
          (blkOk_by (own := [("reader", 4)]) (N := ["book", "rows", "absent", "present", "reader", "work", "row"]) (sc := defScope sPkTimes) (by decide +kernel))
          (fun _ _ _ _ _ => pg_name (i := 4) scPkTimes.nd rfl (.inl rfl)) (fun _ _ _ _ _ => pts_nil) (fun _ _ _ _ _ => pe_ix ix_list (pv 1) (pv 4) (fun _ _ => rfl))))
      (pss_one (ps_ret (pe_lc (own := [("work", 5)]) (g := gName 5) (tt := tYes)
      (te := tCB (fun xs H Q => ∃ p ys, xs = [.ref p] ∧ (SqL K H p ys ∨ SqT K H p ys) ∧ Q (.int ys.length) H) (tCons (tLc (iList K (tVar 3)) (gName 6) (tTest (tOp (rIn K false) (tVar 5) (tVar 6))) (tVar 6) [6]) tNil))
      rfl scPkTimes.nd (pi_range1 rfl B.range (pa_cons (pe_callB (call_lenOwn GL hr mL.at_ mL.fn bL) (by rfl) B.len PySem.boot_len (pa_cons (pv 0) pa_nil)) pa_nil)) (blkOk_by (own := [("work", 5)]) (N := ["book", "rows", "absent", "present", "reader", "work", "row"]) (sc := defScope sPkTimes) (by decide +kernel))
      (fun _ _ _ _ _ => pg_name (i := 5) scPkTimes.nd rfl (.inr rfl)) (fun _ _ _ _ _ => pts_nil)
      (fun _ _ _ _ _ => pe_callB call_len_seq (by rfl) B.len PySem.boot_len (pa_cons
        (pe_lc (own := [("row", 6)]) (g := gName 6) (tt := tTest (tOp (rIn K false) (tVar 5) (tVar 6))) (te := tVar 6) rfl scPkTimes.nd (pi_list (pv 3)) (blkOk_by (own := [("row", 6)]) (N := ["book", "rows", "absent", "present", "reader", "work", "row"]) (sc := relS (retScope2 sPkTimes) (defScope sPkTimes)) (by decide +kernel))
          (fun _ _ _ _ _ => pg_name (i := 6) scPkTimes.nd rfl (.inl rfl)) (fun _ _ _ _ _ => pts_one (pt_cmpR op_in_seq (pv 5) (pv 6) (by rfl))) (fun _ _ _ _ _ => pv 6)) pa_nil))))), ?_⟩
    obtain ⟨v1, v2, v3⟩ := hW
    have hul := hb.len
    have r6 := ok.r6
    have n6 := ok.n6
    have hvl : vw.length = ws.length := Paired.len v2
    refine ⟨_, rfl, _, rfl, f, x, ab, ds, us, rs, as, rfl, hb, by omega, hA, fun H1 p s1 np hp => ?_⟩
    have pl := pres_len us.length as
    refine ⟨p, rfl, ⟨_, .inl (.inl hp)⟩, fun D nD => ?_⟩
    have hq1 : ∀ Hq vs, Same H Hq → H D = none → Hq D = some (.lst vs) → Paired (RowT K Hq) vs (presR as 0 ws) → vs.length ≤ 60 → ∀ H' p, Same Hq H' → Hq p = none → H' p = some (.lst ((times (presR as 0 ws) ds.length).map V.int)) → Q (.ref p) H' := fun Hq vs a _ _ _ _ H' p b c d => q H' p (a.trans b) (a.free c) d
    refine lc_list (K := K) (a := p) (xs := (pres us.length as).map V.int) (fun i H' => Same H1 H' ∧ ∃ vs, H' D = some (.lst vs) ∧ Paired (RowT K H') vs (((pres us.length as).take i).map fun k => ws.getD k.toNat [])) ⟨sameU nD, [], upd_same, .nil⟩ (fun i H' _ ⟨e, _⟩ => .inl (.inl (e _ _ hp))) ?_ ?_
    · rintro i y H2 hy ⟨s2, vs, hD, pv⟩
      rw [List.getElem?_map] at hy
      obtain ⟨k, hk, rfl⟩ := Option.map_eq_some_iff.mp hy
      have hkm := pres_lt (List.mem_of_getElem? hk)
      obtain ⟨kn, rfl⟩ : ∃ kn : Nat, k = (kn : Int) := ⟨k.toNat, by omega⟩
      have hkn : kn < ws.length := by omega
      have hwk : ws[kn]? = some ws[kn] := List.getElem?_eq_getElem hkn
      obtain ⟨v, hv, rv⟩ := Paired.at2 v2 hwk
      refine ⟨rfl, ?_⟩
      dsimp only [tYes]
      refine iteT ?_
      have sH := s1.trans s2
      have hvl2 : vs.length ≤ 60 := by
        rw [Paired.len pv, List.length_map, List.length_take]; omega
      refine ⟨_, rfl, _, rfl, W, vw, (kn : Int), v, rfl, rfl, sH.seq v1, atI_nat hv, vs, hD, szl (by omega), same_own s2 nD, vs ++ [v], upd_same, ?_⟩
      rw [take_more hk, List.map_append]
      refine Paired.snoc (L2.Paired.mapP pv fun _ _ z => RowT.upd hD z) ?_
      show RowT K _ v (ws.getD ((kn : Nat) : Int).toNat [])
      rw [Int.toNat_natCast, show ws.getD kn [] = ws[kn] from by simp [List.getD, hwk]]
      exact RowT.upd hD (rv.same sH)
    · rintro H2 ⟨s2, vs, hD, pv⟩
      rw [List.length_map, List.take_length, hul, ← v3, pres_get (Nat.le_refl _), List.take_length] at pv
      have sH := s1.trans s2
      have hpl := presR_len as ws 0
      have hvl2 : vs.length ≤ 60 := by
        rw [Paired.len pv]; omega
      have qq := hq1 H2 vs sH (s1.free nD) hD pv hvl2
      clear hq1 q
      have hL : SqL K H2 D vs := .inl (.inl hD)
      generalize hws' : presR as 0 ws = ws' at *
      have wl : ws'.length ≤ 60 := by omega
      obtain ⟨dx, A1, R1, hx, _⟩ := id (hb.same sH)
      have tk : ∀ i, i < ds.length → (times ws' ds.length)[i]? = some (((ws'.filter fun r => decide (((i : Nat) : Int) ∈ r)).length : Nat) : Int) := fun i hi => by
        unfold times
        rw [List.getElem?_map, List.getElem?_range hi]
        rfl
      have tl := times_len ws' ds.length
      refine ⟨_, rfl, x, dx, _, rfl, hx, f, x, ds, us, rs, rfl, hb.same sH, _, rfl, ⟨by omega, by omega⟩, _, rfl, by omega, by omega, fun E1 nE => ?_⟩
      refine lc_range (lo := 0) (n := ((ds.length : Nat) : Int).toNat) (fun i H' => Same H2 H' ∧ H' E1 = some (.lst (((times ws' ds.length).take i).map V.int))) ⟨sameU nE, upd_same⟩ ?_ ?_
      · rintro i H3 hi ⟨s3, hE⟩
        have hi' : i < ds.length := by simpa using hi
        refine ⟨rfl, ?_⟩
        dsimp only [tYes]
        refine iteT ?_
        refine ⟨_, rfl, D, rfl, ⟨_, s3.seq hL⟩, fun D2 nD2 => ?_⟩
        refine lc_list (K := K) (a := D) (xs := vs) (fun j H' => ∃ us2, Same H3 H' ∧ H' D2 = some (.lst us2) ∧ us2.length = ((ws'.take j).filter fun r => decide (((i : Nat) : Int) ∈ r)).length) ⟨[], sameU nD2, upd_same, rfl⟩ (fun j H' _ ⟨_, e, _⟩ => e.seq (s3.seq hL)) ?_ ?_
        · rintro j y H4 hy ⟨us2, s4, hD2, el⟩
          obtain ⟨r, hr2, t, rfl, hT⟩ := Paired.at1 pv hy
          have hT2 : SqT K H4 t (r.map V.int) := sameT s4 (sameT s3 hT)
          refine ⟨rfl, _, rfl, _, rfl, t, _, rfl, .inr hT2, rfl, flat_ints r, _, rfl, ?_⟩
          have ez : (0 : Int) + ((i : Nat) : Int) = ((i : Nat) : Int) := Int.zero_add _
          rw [ez, if_neg Bool.false_ne_true, inV_int]
          have st := filter_take_snoc (fun r => decide (((i : Nat) : Int) ∈ r)) hr2
          have hvl : us2.length ≤ 60 := by
            rw [el]
            refine Nat.le_trans (List.length_filter_le _ _) ?_
            rw [List.length_take]; omega
          refine ite2 (fun c => ?_) (fun c => ?_)
          · refine ⟨_, rfl, us2, hD2, szl (by omega), us2 ++ [.ref t], same_own s4 nD2, upd_same, ?_⟩
            rw [st, if_pos c, List.length_append, List.length_append, el]
            rfl
          · refine ⟨us2, s4, hD2, ?_⟩
            rw [st, if_neg c, List.append_nil]
            exact el
        · rintro H4 ⟨us2, s4, hD2, el⟩
          refine ⟨D2, us2, rfl, .inl (.inl (.inl hD2)), _, s4 _ _ hE, szl (by rw [List.length_map, List.length_take]; omega), same_own (s3.trans s4) nE, ?_⟩
          have el' : us2.length = (ws'.filter fun r => decide (((i : Nat) : Int) ∈ r)).length := by
            rw [el, Paired.len pv, List.take_length]
          rw [upd_same, take_more (tk i hi'), List.map_append, el']
          rfl
      · rintro H' ⟨s3, hE⟩
        refine qq H' E1 s3 nE ?_
        rw [hE]
        rw [List.take_of_length_le (by rw [tl]; exact Nat.le_of_eq (Int.toNat_natCast ds.length).symm)]
theorem scPkGood : FnScope ["book", "rows"] ["book", "rows"] (defScope sPkGood) := ⟨rfl, rfl, rfl, by decide +kernel, rfl, by decide +kernel, by decide +kernel⟩
theorem ok_pkGood {f fP fQ : Addr} {fd fdP fdQ : FuncData} (F : Fun K "is_good" "is_good" sPkGood f fd) (B : Bi mg) (T : BookTxt K mg C) (Kk : Kl K C) (FP : Fun K "present_readers" "present_readers" sPkPrs fP fdP) (bP : Binds K fdP ["book", "absent"] []) (gP : mg "present_readers" = some (.ref fP))
    (FQ : Fun K "times_read" "times_read" sPkTimes fQ fdQ) (bQ : Binds K fdQ ["book", "rows", "absent"] []) (gQ : mg "times_read" = some (.ref fQ)) : FnOk P w K mg base CX0 4 f fd ["book", "rows"] (spPkGood K C) := by
  obtain ⟨fD, fdD, FD, bD, mD⟩ := T.dem
  have GD : FnOk P w K mg base CX0 1 fD fdD ["self"] (spBkDem K C) := ok_bkDem FD B T
  have GQ : FnOk P w K mg base CX0 3 fQ fdQ ["book", "rows", "absent"] (spPkTimes K C) := ok_pkTimes FQ B T Kk FP bP gP
  refine F.ok scPkGood (fun vs H Q E h => ?_) (fun cdv A outer s H vs Q E hr h => ?_)
  · obtain ⟨f, x, W, ds, us, rs, vw, ws, rfl, _⟩ := h
    rfl
  · obtain ⟨f, x, W, ds, us, rs, vw, ws, rfl, hb, ok, hW, q⟩ := h
    have hr1 := hr.mono (show 1 ≤ 3 by decide)
    refine ⟨_, pss_one (ps_ret (pe_cmpR (op_eqD hr.units) (pe_call GQ hr (by rfl) gQ FQ.kp bQ .nil pass0 (pa_cons (pv 0) (pa_cons (pv 1) (pa_cons (pe_tup pa_nil) pa_nil)))) (pe_meth0 (pv 0) T.cl mD GD hr1 bD .nil pass0) (nomark _))), ?_⟩
    refine ⟨_, rfl, _, rfl, Nat.zero_le _, fun e ne => ?_⟩
    have se : Same H (upd H e (.tup [])) := sameU ne
    refine ⟨f, x, W, e, ds, us, rs, vw, ws, [], rfl, hb.same se, ok, hW.same se, .inl (.inl upd_same), fun H1 p s1 np hp => ?_⟩
    rw [presR_nil] at hp
    have sH := se.trans s1
    obtain ⟨dx, A1, R1, hx, _⟩ := id (hb.same sH)
    refine ⟨_, rfl, x, dx, _, rfl, hx, bf_no _ _ (by decide +kernel) (by decide +kernel), f, x, ds, us, rs, rfl, hb.same sH, fun H2 p2 s2 np2 hp2 => ?_⟩
    refine ⟨dI (times ws ds.length), dI ds, dp_dI (.inl (.inl (s2 _ _ hp))), dp_dI (.inl (.inl hp2)), shp_dI _, shp_dI _, ?_⟩
    rw [eqv_dI]
    exact q H2 (sH.trans s2)
theorem scPkEnough : FnScope ["book", "rows", "times", "demand"] ["book", "rows"] (defScope sPkEnough) := ⟨rfl, rfl, rfl, by decide +kernel, rfl, by decide +kernel, by decide +kernel⟩
theorem ok_pkEnough {f fP fQ : Addr} {fd fdP fdQ : FuncData} (F : Fun K "is_enough" "is_enough" sPkEnough f fd) (B : Bi mg) (T : BookTxt K mg C) (Kk : Kl K C) (FP : Fun K "present_readers" "present_readers" sPkPrs fP fdP) (bP : Binds K fdP ["book", "absent"] []) (gP : mg "present_readers" = some (.ref fP))
    (FQ : Fun K "times_read" "times_read" sPkTimes fQ fdQ) (bQ : Binds K fdQ ["book", "rows", "absent"] []) (gQ : mg "times_read" = some (.ref fQ)) : FnOk P w K mg base CX0 4 f fd ["book", "rows"] (spPkEnough K C) := by
  obtain ⟨fD, fdD, FD, bD, mD⟩ := T.dem
  have GD : FnOk P w K mg base CX0 1 fD fdD ["self"] (spBkDem K C) := ok_bkDem FD B T
  have GQ : FnOk P w K mg base CX0 3 fQ fdQ ["book", "rows", "absent"] (spPkTimes K C) := ok_pkTimes FQ B T Kk FP bP gP
  refine F.ok scPkEnough (fun vs H Q E h => ?_) (fun cdv A outer s H vs Q E hr h => ?_)
  · obtain ⟨f, x, W, ds, us, rs, vw, ws, rfl, _⟩ := h
    rfl
  · obtain ⟨f, x, W, ds, us, rs, vw, ws, rfl, hb, ok, hW, q⟩ := h
    have hr1 := hr.mono (show 1 ≤ 3 by decide)
    have n6 := ok.n6
    refine ⟨_, pss_one (ps_ret (pe_callB (cr_all rfl) (by rfl) B.all (by decide +kernel) (pa_cons
        (pe_lc (own := [("times", 2), ("demand", 3)]) (g := gTup K 2 (gCons (gName 2) (gCons (gName 3) gNil))) (tt := tYes) (te := tOp (rI0 fun i j => V.bl (decide (j ≤ i))) (tVar 2) (tVar 3)) rfl scPkEnough.nd (pi_zip (by rfl) B.zip (pa_cons (pe_call GQ hr (by rfl) gQ FQ.kp bQ .nil pass0 (pa_cons (pv 0) (pa_cons (pv 1) (pa_cons (pe_tup pa_nil) pa_nil)))) (pa_cons (pe_meth0 (pv 0) T.cl mD GD hr1 bD .nil pass0) pa_nil)))
          (blkOk_by (own := [("times", 2), ("demand", 3)]) (N := ["book", "rows", "times", "demand"]) (sc := defScope sPkEnough) (by decide +kernel))
          (fun _ _ _ _ _ => pg_tup (by rfl) (pgs_cons (pg_name (i := 2) scPkEnough.nd rfl (.inl rfl)) (pgs_cons (pg_name (i := 3) scPkEnough.nd rfl (.inl rfl)) pgs_nil))) (fun _ _ _ _ _ => pts_nil)
          (fun _ _ _ _ _ => pe_cmpR op_ge (pv 2) (pv 3) (nomark _))) pa_nil))), ?_⟩
    refine ⟨_, rfl, _, rfl, Nat.zero_le _, fun e ne => ?_⟩
    have se : Same H (upd H e (.tup [])) := sameU ne
    refine ⟨f, x, W, e, ds, us, rs, vw, ws, [], rfl, hb.same se, ok, hW.same se, .inl (.inl upd_same), fun H1 p s1 np hp => ?_⟩
    rw [presR_nil] at hp
    have sH := se.trans s1
    obtain ⟨dx, A1, R1, hx, _⟩ := id (hb.same sH)
    refine ⟨_, rfl, x, dx, _, rfl, hx, bf_no _ _ (by decide +kernel) (by decide +kernel), f, x, ds, us, rs, rfl, hb.same sH, fun H2 p2 s2 np2 hp2 => ?_⟩
    have hp' := s2 _ _ hp
    have tl := times_len ws ds.length
    have sH2 := sH.trans s2
    clear hp
    generalize times ws ds.length = ts at *
    refine ⟨p, p2, _, _, rfl, .inl (.inl hp'), .inl (.inl hp2), fun D nD => ?_⟩
    refine lc_it (walk_zip (xs := ts.map V.int) (ys := ds.map V.int) (n := ts.length) (by rw [List.length_map, List.length_map]; omega)) (fun i H' => Same H2 H' ∧ H' D = some (.lst ((((ts.zip ds).take i).map fun z => decide (z.2 ≤ z.1)).map V.bl))) ⟨sameU nD, upd_same⟩ (fun i H' _ ⟨e, _⟩ => ⟨.inl (.inl (e _ _ hp')), .inl (.inl (e _ _ hp2))⟩) ?_ ?_
    · rintro i y H3 H4 hi ⟨s3, hD⟩ ⟨tt, x1, x2, rfl, nt, rfl, f1, f2⟩
      replace f1 : (ts.map V.int)[i]? = some x1 := f1
      replace f2 : (ds.map V.int)[i]? = some x2 := f2
      rw [List.getElem?_map] at f1 f2
      obtain ⟨a, ha, rfl⟩ := Option.map_eq_some_iff.mp f1
      obtain ⟨b, hb2, rfl⟩ := Option.map_eq_some_iff.mp f2
      have sT := s3.trans (sameU (o := .tup [V.int a, V.int b]) nt)
      refine ⟨tt, _, rfl, .inl (.inl upd_same), rfl, _, _, rfl, _, _, rfl, rfl, rfl, ?_⟩
      dsimp only [tYes]
      refine iteT ?_
      have hD2 := sameU (o := .tup [V.int a, V.int b]) nt _ _ hD
      refine ⟨_, rfl, _, rfl, _, _, rfl, rfl, _, hD2, szl (by rw [List.length_map, List.length_map, List.length_take, List.length_zip]; omega), same_own sT nD, ?_⟩
      rw [upd_same, take_more (zip_at ha hb2), List.map_append, List.map_append]
      rfl
    · rintro H3 ⟨s3, hD⟩
      have hz : (ts.zip ds).length = ts.length := by rw [List.length_zip]; omega
      rw [← hz, List.take_length] at hD
      refine ⟨D, _, rfl, .inl (.inl hD), ?_⟩
      have e2 : ((ts.zip ds).map fun z => decide (z.2 ≤ z.1)).all id = enB ds ts := by
        unfold enB
        rw [List.all_map]
        rfl
      rw [e2]
      exact q H3 (sH2.trans s3)
end
end Ew
namespace Ew
open PySem PySem.Spec PyProof.Rows L2
abbrev sPkCont : Stmt := (top 12)
abbrev sPkExt : Stmt := (top 13)
def allRows : List PyData → Option (List (List Int))
  | [] => some []
  | d :: r => (rowOf d).bind fun w => (allRows r).map (w :: ·)
theorem allRows_map : ∀ vs : List (List Int), allRows (vs.map dT) = some vs
  | [] => rfl
  | w :: vs => by
    show ((rowOf (dT w)).bind fun w => (allRows (vs.map dT)).map (w :: ·)) = _
    rw [rowOf_dT, allRows_map vs]
    rfl
def kept (ds : List Int) (ws : List (List Int)) (as : List Int) : List Int := (ds.zip (times (presR as 0 ws) ds.length)).map fun p => if p.2 > p.1 then p.2 else p.1
def extB (ds : List Int) (ws : List (List Int)) (as : List Int) (vs : List (List Int)) : Bool := contB as 0 ws vs && decide (times vs ds.length = kept ds ws as)
def extV (ds : List Int) (rs : List (Int × List Int)) (ws : List (List Int)) (as : List Int) (d : Option PyData) : Bool := areV rs d && (match d with
  | some (.list es) => (match allRows es with
    | some vs => extB ds ws as vs
    | none => false)
  | _ => false)
theorem times_cont {as : List Int} {ws vs : List (List Int)} {n : Nat} (el : ws.length = vs.length) (h : contB as 0 ws vs = true) : times (presR as 0 vs) n = times vs n := by
  unfold times
  refine List.map_congr_left fun k _ => ?_
  rw [contB_pres el h]
theorem extV_rows {ds : List Int} {rs : List (Int × List Int)} {ws vs : List (List Int)} {as : List Int} {es : List PyData} (h : areV rs (some (.list es)) = true) (e : es = vs.map dT) : extV ds rs ws as (some (.list es)) = extB ds ws as vs := by
  unfold extV
  rw [h, e]
  dsimp only
  rw [allRows_map]
  exact Bool.true_and _
/-- a value that is rows -/
theorem val_rows {K : PySem.W.Frag} {P : Addr → Prop} {H : Hp} {x : Addr} {v : V} {d : Option PyData} {rs : List (Int × List Int)} (hv : Val K P H x v d) (h : areV rs d = true) : ∃ (a : Addr) (es : List PyData) (xs : List V) (vs : List (List Int)), d = some (.list es) ∧ v = .ref a ∧ P a ∧ H a = some (.lst xs) ∧ es = vs.map dT ∧ RowsAt K H a xs vs rs.length ∧ Paired RowOk rs vs := by
  cases d with
  | none => cases h
  | some d =>
    have hd : Dq K P H v d := hv
    cases hd with
    | @lst a xs es p e ha =>
      have h' : decide (es.length = rs.length) = true ∧ ((es.zip rs).all fun p => isRowD p.2 p.1) = true := Bool.and_eq_true_iff.mp h
      obtain ⟨vs, e1, e2, e3⟩ := rows_of ha (of_decide_eq_true h'.1) h'.2
      exact ⟨a, es, xs, vs, rfl, rfl, p, e, e1, ⟨.inl (.inl e), e2, (Paired.len e3).symm⟩, e3⟩
    | _ => cases h
theorem RowOk.len6 {r : Int × List Int} {w : List Int} (h : RowOk r w) (h6 : r.1 ≤ 6) : w.length ≤ 6 := by
  have := h.2.2
  omega
theorem rows_len6 : ∀ {rs : List (Int × List Int)} {vs : List (List Int)}, Paired RowOk rs vs → (∀ r ∈ rs, r.1 ≤ 6) → ∀ w ∈ vs, w.length ≤ 6
  | _, _, .nil, _, w, h => by simp at h
  | r :: rs, v :: vs, .cons a t, hr, w, h => by
    rcases List.mem_cons.mp h with e | e
    · rw [e]; exact a.len6 (hr r (by simp))
    · exact rows_len6 t (fun r hr' => hr r (by simp [hr'])) w e
def spPkCont (K : PySem.W.Frag) : Sp := fun vs H Q _ => ∃ (W ab U : Addr) (vw vu : List V) (ws us : List (List Int)) (as : List Int) (n : Nat), vs = [.ref W, .ref ab, .ref U] ∧ RowsAt K H W vw ws n ∧ RowsAt K H U vu us n ∧ (∀ w ∈ ws, w.length ≤ 60) ∧ SqT K H ab (as.map V.int) ∧ ∀ H', Same H H' → Q (.bl (contB as 0 ws us)) H'
def spPkExt (K : PySem.W.Frag) (C : Addr) : Sp := fun vs H Q _ => ∃ (P : Addr → Prop) (f x W ab : Addr) (v : V) (d : Option PyData) (ds : List Int) (us : List V) (rs : List (Int × List Int)) (vw : List V) (ws : List (List Int)) (as : List Int), vs = [.ref x, .ref W, .ref ab, v] ∧ IsBook K C f H x ds us rs ∧ DsOk ds rs ∧
  RowsAt K H W vw ws rs.length ∧ (∀ w ∈ ws, w.length ≤ 60) ∧ SqT K H ab (as.map V.int) ∧ Val K P H x v d ∧ ∀ H', Same H H' → Q (.bl (extV ds rs ws as d)) H'
section
variable {P : Program} {w : World} {K : PySem.W.Frag} {mg : Str → Option Value} {base : Heap} {C : Addr}
theorem scPkCont : FnScope ["rows", "absent", "value", "reader", "row", "work"] ["rows", "absent", "value"] (defScope sPkCont) := ⟨rfl, rfl, rfl, by decide +kernel, rfl, by decide +kernel, by decide +kernel⟩
theorem ok_pkCont {f : Addr} {fd : FuncData} (F : Fun K "contains" "contains" sPkCont f fd) (B : Bi mg) : FnOk P w K mg base CX0 1 f fd ["rows", "absent", "value"] (spPkCont K) := by
  refine F.ok scPkCont (fun vs H Q E h => ?_) (fun cdv A outer s H vs Q E hr h => ?_)
  · obtain ⟨W, ab, U, vw, vu, ws, us, as, n, rfl, _⟩ := h
    rfl
  · obtain ⟨W, ab, U, vw, vu, ws, us, as, n, rfl, hW, hU, hl, hA, q⟩ := h
    refine ⟨_, pss_cons (ps_for PassesOwn.never rfl (pi_enum (by rfl) B.enumerate (pa_cons (pv 2) pa_nil)) (pg_tup (by rfl) (pgs_cons (pg_name (i := 3) scPkCont.nd rfl (.inl rfl)) (pgs_cons (pg_name (i := 4) scPkCont.nd rfl (.inr rfl)) pgs_nil)))
        (pss_one (ps_if (pt_cmpR op_in_seq (pv 3) (pv 1) (by rfl)) (pss_one (ps_if (pt_cmpR op_gt (pe_callB call_len_seq (by rfl) B.len PySem.boot_len (pa_cons (pv 4) pa_nil)) pe_int (nomark _)) (pss_one (ps_ret pe_bl)) pss_nil))
          (pss_one (ps_if (pt_not (pt_val (pe_callB (cr_all rfl) (by rfl) B.all (by decide +kernel) (pa_cons
            (pe_lc (own := [("work", 5)]) (g := gName 5) (tt := tYes) (te := tOp (rIn K false) (tVar 5) (tVar 4)) rfl scPkCont.nd (pi_tup (pe_ix ix_list (pv 0) (pv 3) (fun _ _ => rfl))) (blkOk_by (own := [("work", 5)]) (N := ["rows", "absent", "value", "reader", "row", "work"]) (sc := defScope sPkCont) (by decide +kernel))
              (fun _ _ _ _ _ => pg_name (i := 5) scPkCont.nd rfl (.inl rfl)) (fun _ _ _ _ _ => pts_nil) (fun _ _ _ _ _ => pe_cmpR op_in_seq (pv 5) (pv 4) (by rfl))) pa_nil)))) (pss_one (ps_ret pe_bl)) pss_nil)))))
      (pss_one (ps_ret pe_bl)), ?_⟩
    obtain ⟨w1, w2, w3⟩ := hW
    obtain ⟨u1, u2, u3⟩ := hU
    have hul : vu.length = us.length := Paired.len u2
    have hwl : vw.length = ws.length := Paired.len w2
    refine ⟨_, rfl, U, vu, rfl, u1, for_it (walk_enum (xs := vu)) (fun i σ H' => ∃ y3 y4, σ = [some (.ref W), some (.ref ab), some (.ref U), y3, y4, none] ∧ Same H H' ∧ contB as 0 ws us = contB as i (ws.drop i) (us.drop i)) ⟨none, none, rfl, Same.refl H, rfl⟩ (fun i σ H' _ ⟨_, _, _, e, _⟩ => e.seq u1) ?_ ?_⟩
    · rintro i v σ H2 H3 hi ⟨y3, y4, rfl, s2, ec⟩ ⟨t, x1, x2, rfl, nt, rfl, f1, f2⟩
      obtain rfl : V.int (i : Nat) = x1 := Option.some.inj f1
      obtain ⟨r, hr2, tr, rfl, hR⟩ := Paired.at1 u2 f2
      have sT : Same H (upd H2 t (.tup [V.int (i : Nat), .ref tr])) := s2.trans (sameU nt)
      refine ⟨t, _, rfl, .inl (.inl upd_same), rfl, _, _, rfl, _, _, rfl, rfl, ?_⟩
      generalize upd H2 t (.tup [V.int (i : Nat), .ref tr]) = H4 at *
      have hiu : i < us.length := by omega
      have hiw : i < ws.length := by omega
      obtain ⟨wr, hwr⟩ : ∃ wr, ws[i]? = some wr := ⟨_, List.getElem?_eq_getElem hiw⟩
      have du : us.drop i = r :: us.drop (i + 1) := by
        have hl := (List.getElem?_eq_some_iff.mp hr2)
        rw [List.drop_eq_getElem_cons hl.1, hl.2]
      have dw : ws.drop i = wr :: ws.drop (i + 1) := by
        have hl := (List.getElem?_eq_some_iff.mp hwr)
        rw [List.drop_eq_getElem_cons hl.1, hl.2]
      have ec2 : contB as 0 ws us = ((if ((i : Nat) : Int) ∈ as then decide (r = []) else wr.all fun x => decide (x ∈ r)) && contB as (i + 1) (ws.drop (i + 1)) (us.drop (i + 1))) := by
        rw [ec, du, dw]
        rfl
      refine ⟨_, rfl, _, rfl, ab, _, rfl, .inr (sameT sT hA), rfl, flat_ints as, _, rfl, ?_⟩
      rw [if_neg Bool.false_ne_true, inV_int]
      have hR4 := sameT sT hR
      by_cases hm : ((i : Nat) : Int) ∈ as
      · rw [decide_eq_true hm]
        rw [if_pos hm] at ec2
        refine iteT ?_
        refine ⟨_, rfl, tr, _, rfl, .inr hR4, _, _, rfl, rfl, _, rfl, ?_⟩
        rw [List.length_map]
        cases r with
        | nil =>
          refine iteF ⟨_, _, rfl, sT, ?_⟩
          rw [ec2]
          exact Bool.true_and _
        | cons a r' =>
          refine ite2 (fun _ => ?_) (fun c => absurd (decide_eq_true (by rw [List.length_cons]; omega)) c)
          rw [show contB as 0 ws us = false from by rw [ec2]; rfl] at q
          exact q H4 sT
      · rw [decide_eq_false hm]
        rw [if_neg hm] at ec2
        refine iteF ?_
        obtain ⟨vr, hvr, tw, rfl, hWr⟩ := Paired.at2 w2 hwr
        have hWr4 := sameT sT hWr
        have wl := hl wr (List.mem_of_getElem? hwr)
        refine ⟨_, rfl, _, rfl, W, vw, (i : Int), _, rfl, rfl, sT.seq w1, atI_nat hvr, tw, rfl, ⟨_, hWr4⟩, fun D nD => ?_⟩
        refine lc_tup (K := K) (a := tw) (xs := wr.map V.int) (fun j H' => Same H4 H' ∧ H' D = some (.lst (((wr.take j).map fun x => decide (x ∈ r)).map V.bl))) ⟨sameU nD, upd_same⟩ (fun j H' _ ⟨e, _⟩ => sameT e hWr4) ?_ ?_
        · rintro j y H5 hy ⟨s5, hD⟩
          rw [List.getElem?_map] at hy
          obtain ⟨z, hz, rfl⟩ := Option.map_eq_some_iff.mp hy
          refine ⟨rfl, ?_⟩
          dsimp only [tYes]
          refine iteT ?_
          refine ⟨_, rfl, _, rfl, tr, _, rfl, .inr (sameT s5 hR4), rfl, flat_ints r, _, hD, szl (by rw [List.length_map, List.length_map, List.length_take]; omega), same_own s5 nD, ?_⟩
          rw [if_neg (by decide), inV_int, upd_same, take_more hz, List.map_append, List.map_append]
          rfl
        · rintro H5 ⟨s5, hD⟩
          rw [List.length_map, List.take_length] at hD
          have e2 : (wr.map fun x => decide (x ∈ r)).all id = wr.all fun x => decide (x ∈ r) := by rw [List.all_map]; rfl
          refine ⟨D, _, rfl, .inl (.inl hD), _, rfl, ?_⟩
          rw [e2]
          cases hc : (wr.all fun x => decide (x ∈ r)) with
          | true =>
            refine iteF ⟨_, _, rfl, sT.trans s5, ?_⟩
            rw [ec2, hc]
            exact Bool.true_and _
          | false =>
            refine iteT ?_
            rw [show contB as 0 ws us = false from by rw [ec2, hc]; rfl] at q
            exact q H5 (sT.trans s5)
    · rintro σ H2 ⟨y3, y4, rfl, s2, ec⟩
      have : contB as 0 ws us = true := by
        rw [ec, List.drop_of_length_le (by omega), List.drop_of_length_le (by omega)]
        rfl
      rw [this] at q
      exact q H2 s2
theorem scPkExt : FnScope ["book", "rows", "absent", "value", "before", "wanted", "demand", "times"] ["book", "rows", "absent", "value"] (defScope sPkExt) := ⟨rfl, rfl, rfl, by decide +kernel, rfl, by decide +kernel, by decide +kernel⟩
/-- the package's small defs of rows -/
structure Rws (K : PySem.W.Frag) (mg : Str → Option Value) : Prop where
  row : ∃ f fd, Fun K "is_row" "is_row" sPkRow f fd ∧ Binds K fd ["value", "reader", "many"] [] ∧ mg "is_row" = some (.ref f)
  rows : ∃ f fd, Fun K "is_rows" "is_rows" sPkRows f fd ∧ Binds K fd ["book", "value"] [] ∧ mg "is_rows" = some (.ref f)
  prs : ∃ f fd, Fun K "present_readers" "present_readers" sPkPrs f fd ∧ Binds K fd ["book", "absent"] [] ∧ mg "present_readers" = some (.ref f)
  times : ∃ f fd, Fun K "times_read" "times_read" sPkTimes f fd ∧ Binds K fd ["book", "rows", "absent"] [] ∧ mg "times_read" = some (.ref f)
  good : ∃ f fd, Fun K "is_good" "is_good" sPkGood f fd ∧ Binds K fd ["book", "rows"] [] ∧ mg "is_good" = some (.ref f)
  enough : ∃ f fd, Fun K "is_enough" "is_enough" sPkEnough f fd ∧ Binds K fd ["book", "rows"] [] ∧ mg "is_enough" = some (.ref f)
  cont : ∃ f fd, Fun K "contains" "contains" sPkCont f fd ∧ Binds K fd ["rows", "absent", "value"] [] ∧ mg "contains" = some (.ref f)
  ext : ∃ f fd, Fun K "extends" "extends" sPkExt f fd ∧ Binds K fd ["book", "rows", "absent", "value"] [] ∧ mg "extends" = some (.ref f)
theorem ok_pkExt {f : Addr} {fd : FuncData} (F : Fun K "extends" "extends" sPkExt f fd) (L : Vals1 K mg) (T : BookTxt K mg C) (Kk : Kl K C) (R : Rws K mg) : FnOk P w K mg base CX0 5 f fd ["book", "rows", "absent", "value"] (spPkExt K C) := by
  have B := L.bi
  obtain ⟨fD, fdD, FD, bD, mD⟩ := T.dem
  obtain ⟨⟨fW, fdW, FW, bW, gW⟩, ⟨fO, fdO, FO, bO, gO⟩, ⟨fP, fdP, FP, bP, gP⟩, ⟨fQ, fdQ, FQ, bQ, gQ⟩, _, _, ⟨fN, fdN, FN, bN, gN⟩, _⟩ := R
  have GD : FnOk P w K mg base CX0 1 fD fdD ["self"] (spBkDem K C) := ok_bkDem FD B T
  have GQ : FnOk P w K mg base CX0 3 fQ fdQ ["book", "rows", "absent"] (spPkTimes K C) := ok_pkTimes FQ B T Kk FP bP gP
  have GO : FnOk P w K mg base CX0 4 fO fdO ["book", "value"] (spPkRows K C) := ok_pkRows FO L T Kk FW bW gW
  have GN : FnOk P w K mg base CX0 1 fN fdN ["rows", "absent", "value"] (spPkCont K) := ok_pkCont FN B
  refine F.ok scPkExt (fun vs H Q E h => ?_) (fun cdv A outer s H vs Q E hr h => ?_)
  · obtain ⟨P', f, x, W, ab, v, d, ds, us, rs, vw, ws, as, rfl, _⟩ := h
    rfl
  · obtain ⟨P', f, x, W, ab, v, d, ds, us, rs, vw, ws, as, rfl, hb, ok, hW, hl, hA, hv, q⟩ := h
    have hr1 := hr.mono (show 1 ≤ 4 by decide)
    have hr3 := hr.mono (show 3 ≤ 4 by decide)
    have n6 := ok.n6
    refine ⟨_, pss_cons (ps_if (PW.pt (pw_or (pt_not (pt_val (pe_call GO hr (by rfl) gO FO.kp bO .nil pass0 (pa_cons (pv 0) (pa_cons (pv 3) pa_nil)))))
          (pw_or1 (pt_not (pt_val (pe_call GN hr1 (by rfl) gN FN.kp bN .nil pass0 (pa_cons (pv 1) (pa_cons (pv 2) (pa_cons (pv 3) pa_nil))))))))) (pss_one (ps_ret pe_bl)) pss_nil)
      (pss_cons (ps_set (i := 4) scPkExt.nd rfl (.inl rfl) (pe_call GQ hr3 (by rfl) gQ FQ.kp bQ .nil pass0 (pa_cons (pv 0) (pa_cons (pv 1) (pa_cons (pv 2) pa_nil)))))
      (pss_cons (ps_setLc (i := 5) (own := [("demand", 6), ("times", 7)]) (g := gTup K 2 (gCons (gName 6) (gCons (gName 7) gNil))) (tt := tYes) (te := tCB (fun xs H Q => ∃ i j, xs = [V.int i, V.int j] ∧ Q (V.int (if j > i then j else i)) H) (tCons (tVar 6) (tCons (tVar 7) tNil))) rfl scPkExt.nd rfl rfl rfl (pi_zip (by rfl) B.zip (pa_cons (pe_meth0 (pv 0) T.cl mD GD hr1 bD .nil pass0) (pa_cons (pv 4) pa_nil)))
          (blkOk_by (own := [("demand", 6), ("times", 7)]) (N := ["book", "rows", "absent", "value", "before", "wanted", "demand", "times"]) (sc := defScope sPkExt) (by decide +kernel))
          (fun _ _ _ _ _ => pg_tup (by rfl) (pgs_cons (pg_name (i := 6) scPkExt.nd rfl (.inl rfl)) (pgs_cons (pg_name (i := 7) scPkExt.nd rfl (.inl rfl)) pgs_nil))) (fun _ _ _ _ _ => pts_nil)
          (fun _ _ _ _ _ => pe_callB (call_max2 rfl) (by rfl) B.max (by decide +kernel) (pa_cons (pv 6) (pa_cons (pv 7) pa_nil))))
      (pss_one (ps_ret (pe_cmpR (op_eqD hr.units) (pe_call GQ hr3 (by rfl) gQ FQ.kp bQ .nil pass0 (pa_cons (pv 0) (pa_cons (pv 3) (pa_cons (pv 2) pa_nil)))) (pv 5) (nomark _)))))), ?_⟩
    refine ⟨_, rfl, _, rfl, P', f, x, v, d, ds, us, rs, rfl, hb, ok, hv, fun H1 s1 => ⟨_, rfl, ?_⟩⟩
    cases ha : areV rs d with
    | false =>
      refine iteT ?_
      have : extV ds rs ws as d = false := by unfold extV; rw [ha]; rfl
      rw [this] at q
      exact q H1 s1
    | true =>
      refine iteF ?_
      obtain ⟨a, es, xs, vs, rfl, rfl, pa, hxa, ees, hR, hRo⟩ := val_rows hv ha
      rw [extV_rows ha ees] at q
      refine ⟨_, rfl, _, rfl, _, rfl, W, ab, a, vw, xs, ws, vs, as, rs.length, rfl, hW.same s1, hR.same s1, hl, sameT s1 hA, fun H2 s2 => ⟨_, rfl, ?_⟩⟩
      have sB := s1.trans s2
      unfold extB at q
      cases hc : contB as 0 ws vs with
      | false =>
        refine iteT ?_
        rw [hc] at q
        exact q H2 sB
      | true =>
        refine iteF ?_
        rw [hc, Bool.true_and] at q
        refine ⟨_, rfl, _, rfl, _, rfl, f, x, W, ab, ds, us, rs, vw, ws, as, rfl, hb.same sB, ok, hW.same sB, sameT sB hA, fun H3 p s3 np hp => ?_⟩
        have sC := sB.trans s3
        obtain ⟨dx, A1, R1, hx, _⟩ := id (hb.same sC)
        refine ⟨_, rfl, x, dx, _, rfl, hx, bf_no _ _ (by decide +kernel) (by decide +kernel), f, x, ds, us, rs, rfl, hb.same sC, fun H4 p2 s4 np2 hp2 => ?_⟩
        have hp' := s4 _ _ hp
        have sE := sC.trans s4
        have tl := times_len (presR as 0 ws) ds.length
        have ek : kept ds ws as = (ds.zip (times (presR as 0 ws) ds.length)).map fun p => if p.2 > p.1 then p.2 else p.1 := rfl
        generalize times (presR as 0 ws) ds.length = ts at *
        refine ⟨_, rfl, p2, p, _, _, rfl, .inl (.inl hp2), .inl (.inl hp'), fun D nD => ?_⟩
        refine lc_it (walk_zip (xs := ds.map V.int) (ys := ts.map V.int) (n := ds.length) (by rw [List.length_map, List.length_map]; omega)) (fun i H' => Same H4 H' ∧ H' D = some (.lst ((((ds.zip ts).take i).map fun p => if p.2 > p.1 then p.2 else p.1).map V.int))) ⟨sameU nD, upd_same⟩ (fun i H' _ ⟨e, _⟩ => ⟨.inl (.inl (e _ _ hp2)), .inl (.inl (e _ _ hp'))⟩) ?_ ?_
        · rintro i y H5 H6 hi ⟨s5, hD⟩ ⟨tt, x1, x2, rfl, nt, rfl, f1, f2⟩
          replace f1 : (ds.map V.int)[i]? = some x1 := f1
          replace f2 : (ts.map V.int)[i]? = some x2 := f2
          rw [List.getElem?_map] at f1 f2
          obtain ⟨z1, hz1, rfl⟩ := Option.map_eq_some_iff.mp f1
          obtain ⟨z2, hz2, rfl⟩ := Option.map_eq_some_iff.mp f2
          have sT := s5.trans (sameU (o := .tup [V.int z1, V.int z2]) nt)
          refine ⟨tt, _, rfl, .inl (.inl upd_same), rfl, _, _, rfl, _, _, rfl, rfl, rfl, ?_⟩
          dsimp only [tYes]
          refine iteT ?_
          have hD2 := sameU (o := .tup [V.int z1, V.int z2]) nt _ _ hD
          refine ⟨_, rfl, _, rfl, _, _, rfl, _, hD2, szl (by rw [List.length_map, List.length_map, List.length_take, List.length_zip]; omega), same_own sT nD, ?_⟩
          rw [upd_same, take_more (zip_at hz1 hz2), List.map_append, List.map_append]
          rfl
        · rintro H5 ⟨s5, hD⟩
          have hz : (ds.zip ts).length = ds.length := by rw [List.length_zip]; omega
          rw [← hz, List.take_length, ← ek] at hD
          have sF := sE.trans s5
          refine ⟨_, rfl, _, rfl, _, rfl, f, x, a, ab, ds, us, rs, xs, vs, as, rfl, hb.same sF, ok, hR.same sF, sameT sF hA, fun H6 p3 s6 np3 hp3 => ?_⟩
          refine ⟨_, rfl, dI (times (presR as 0 vs) ds.length), dI (kept ds ws as), dp_dI (.inl (.inl hp3)), dp_dI (.inl (.inl (s6 _ _ hD))), shp_dI _, shp_dI _, ?_⟩
          rw [eqv_dI, times_cont (by rw [hW.len, hR.len]) hc]
          exact q H6 (sF.trans s6)
end
end Ew
namespace Ew
open PySem PySem.Spec PyProof.Rows L2
abbrev sLRow : Stmt := (top 33)
abbrev sLRows : Stmt := (top 34)
abbrev sKept : Stmt := (top 35)
abbrev sLExt : Stmt := (top 36)
theorem isI_all {K : PySem.W.Frag} {P : Addr → Prop} {H : Hp} : ∀ {vs : List V} {ds : List PyData}, DqA K P H vs ds → vs.all isI = (intsOf ds).isSome
  | [], [], _ => rfl
  | v :: vs, d :: ds, .cons a t => by
    have ih := isI_all t
    rw [List.all_cons, ih]
    cases a with
    | int i =>
      show (true && (intsOf ds).isSome) = ((intsOf ds).map (i :: ·)).isSome
      rw [Bool.true_and, Option.isSome_map]
    | _ => rfl
def spLRows (K : PySem.W.Frag) : Sp := fun vs H Q _ => ∃ (P : Addr → Prop) (v : V) (d : PyData) (R : Addr) (us : List V) (rs : List (Int × List Int)) (n : Int), vs = [v, .ref R, .int n] ∧ Dq K P H v d ∧ SqL K H R us ∧ Paired (RdT K H) us rs ∧ RdsAt n rs ∧ rs.length ≤ 6 ∧ 0 ≤ n ∧ n ≤ 60 ∧ ∀ H', Same H H' → Q (.bl (areRowsD rs d)) H'
def spKept (K : PySem.W.Frag) : Sp := fun vs H Q _ => ∃ (D W ab : Addr) (ds : List Int) (vw : List V) (ws : List (List Int)) (as : List Int) (n : Nat), vs = [.ref D, .ref W, .ref ab] ∧ SqL K H D (ds.map V.int) ∧ ds.length ≤ 60 ∧ RowsAt K H W vw ws n ∧ n ≤ 60 ∧ SqT K H ab (as.map V.int) ∧
  ∀ H' p, Same H H' → H p = none → H' p = some (.lst ((kept ds ws as).map V.int)) → Q (.ref p) H'
def spLExt (K : PySem.W.Frag) : Sp := fun vs H Q _ => ∃ (P : Addr → Prop) (D R W ab : Addr) (v : V) (d : PyData) (ds : List Int) (us : List V) (rs : List (Int × List Int)) (vw : List V) (ws : List (List Int)) (as : List Int), vs = [.ref D, .ref R, .ref W, .ref ab, v] ∧ SqL K H D (ds.map V.int) ∧ SqL K H R us ∧ Paired (RdT K H) us rs ∧ DsOk ds rs ∧
  RowsAt K H W vw ws rs.length ∧ (∀ w ∈ ws, w.length ≤ 60) ∧ SqT K H ab (as.map V.int) ∧ Dq K P H v d ∧ ∀ H', Same H H' → Q (.bl (extV ds rs ws as (some d))) H'
section
variable {P : Program} {w : World} {K : PySem.W.Frag} {mg : Str → Option Value} {base : Heap} {C : Addr}
theorem scLRow : FnScope ["value", "reader", "works", "limit", "may", "one"] ["value", "reader", "works"] (defScope sLRow) := ⟨rfl, rfl, rfl, by decide +kernel, rfl, by decide +kernel, by decide +kernel⟩
theorem ok_lRow {f : Addr} {fd : FuncData} (F : Fun K "_law_is_row" "_law_is_row" sLRow f fd) (B : Bi mg) (Bs : mg "set" = none) : FnOk P w K mg base CX0 1 f fd ["value", "reader", "works"] (spPkRow K) := by
  refine F.ok scLRow (fun vs H Q E h => ?_) (fun cdv A outer s H vs Q E hr h => ?_)
  · obtain ⟨P', v, u, d, r, n, rfl, _⟩ := h
    rfl
  · obtain ⟨P', v, u, d, r, n, rfl, hd, ⟨t, m, rfl, hT, hM⟩, ok, hn, hn0, q⟩ := h
    refine ⟨_, pss_cons (ps_asg (pv 1) (pg_tup (by rfl) (pgs_cons (pg_name (i := 3) scLRow.nd rfl (.inl rfl)) (pgs_cons (pg_name (i := 4) scLRow.nd rfl (.inr rfl)) pgs_nil))))
      (pss_cons (ps_if (PW.pt (pw_or (pt_not (pt_val (pe_callB call_isi (by rfl) B.isinstance (by decide +kernel) (pa_cons (pv 0) (pa_cons (pe_bltn (v := .ty "tuple") (by rfl) B.tuple (by decide +kernel) rfl) pa_nil)))))
          (pw_or1 (pt_cmpR op_gt (pe_callB call_len_seq (by rfl) B.len PySem.boot_len (pa_cons (pv 0) pa_nil)) (pv 3) (nomark _))))) (pss_one (ps_ret pe_bl)) pss_nil)
      (pss_cons (ps_if (pt_cmpR (op_neNil (Nat.lt_of_le_of_lt (Nat.le_add_right _ 64) hr.units))
          (pe_lc (own := [("one", 5)]) (g := gName 5) (tt := tOr (tNot (tTest (tCB (rIsi K) (tCons (tVar 5) (tCons (tC (.ty "int")) tNil))))) (tTest (tCB (rIsi K) (tCons (tVar 5) (tCons (tC (.ty "bool")) tNil))))) (te := tVar 5) rfl scLRow.nd (pi_tup (pv 0)) (blkOk_by (own := [("one", 5)]) (N := ["value", "reader", "works", "limit", "may", "one"]) (sc := defScope sLRow) (by decide +kernel))
            (fun _ _ _ _ _ => pg_name (i := 5) scLRow.nd rfl (.inl rfl))
            (fun _ _ _ _ _ => pts_one (PW.pt (pw_or (pt_not (pt_val (pe_callB call_isi (by rfl) B.isinstance (by decide +kernel) (pa_cons (pv 5) (pa_cons (pe_bltn (v := .ty "int") (by rfl) B.int (by decide +kernel) rfl) pa_nil)))))
              (pw_or1 (pt_val (pe_callB call_isi (by rfl) B.isinstance (by decide +kernel) (pa_cons (pv 5) (pa_cons (pe_bltn (v := .ty "bool") (by rfl) B.bool (by decide +kernel) rfl) pa_nil))))))))
            (fun _ _ _ _ _ => pv 5)) (pe_lst pa_nil) (nomark _)) (pss_one (ps_ret pe_bl)) pss_nil)
      (pss_cons (ps_if (pt_cmpR (op_neNil (Nat.lt_of_le_of_lt (Nat.le_add_right _ 64) hr.units))
          (pe_lc (own := [("one", 5)]) (g := gName 5) (tt := tTest (tOp (rIn K true) (tVar 5) (tVar 4))) (te := tVar 5) rfl scLRow.nd (pi_tup (pv 0)) (blkOk_by (own := [("one", 5)]) (N := ["value", "reader", "works", "limit", "may", "one"]) (sc := defScope sLRow) (by decide +kernel))
            (fun _ _ _ _ _ => pg_name (i := 5) scLRow.nd rfl (.inl rfl)) (fun _ _ _ _ _ => pts_one (pt_cmpR op_notIn_seq (pv 5) (pv 4) (by rfl))) (fun _ _ _ _ _ => pv 5)) (pe_lst pa_nil) (nomark _)) (pss_one (ps_ret pe_bl)) pss_nil)
      (pss_one (ps_ret (pe_cmpR (op_eqD hr.units) (pe_callTy call_list_of (by rfl) B.list (by decide +kernel) (pa_cons (pv 0) pa_nil))
        (pe_callB (cr_sortedSet rfl) (by rfl) B.sorted (by decide +kernel) (pa_cons (pe_callTy (cr_setOfI rfl) (by rfl) Bs (by decide +kernel) (pa_cons (pv 0) pa_nil)) pa_nil)) (nomark _))))))), ?_⟩
    refine ⟨_, rfl, t, _, rfl, hT, rfl, _, _, rfl, _, _, rfl, rfl, ?_⟩
    obtain ⟨k1, _⟩ := isT_of (dq_bt hd)
    refine ⟨_, rfl, v, .ty "tuple", _, _, _, rfl, .ty _, dq_bt hd, k1, _, rfl, ?_⟩
    cases hd with
    | @tup a xs es hS ha =>
      show (if (!decide ("tuple" = "tuple")) = true then _ else _)
      refine iteNS rfl ?_
      have hxl := ha.len
      have eN : ∀ w', intsOf es = some w' → isRowD r (.tuple es) = decide (RowOk r w') := fun w' he => by
        unfold isRowD
        rw [show rowOf (.tuple es) = some w' from he]
      have eO : intsOf es = none → isRowD r (.tuple es) = false := fun he => by
        unfold isRowD
        rw [show rowOf (.tuple es) = none from he]
      refine ⟨_, rfl, a, _, rfl, .inr hS, _, rfl, _, _, rfl, rfl, _, rfl, ite2 (fun c => ?_) (fun c => ?_)⟩
      · have : isRowD r (.tuple es) = false := by
          cases he : intsOf es with
          | none => exact eO he
          | some w' =>
            rw [eN w' he]
            obtain ⟨e1, _⟩ := ints_of ha he
            subst e1
            have c' := of_decide_eq_true c
            rw [List.length_map] at c'
            exact decide_eq_false fun h => by have := h.2.2; omega
        rw [this] at q
        exact q H (Same.refl H)
      have c' : ¬ r.1 < (xs.length : Int) := fun h => c (decide_eq_true h)
      have hr6 := ok.2.1
      have x6 : xs.length ≤ 6 := by omega
      refine ⟨_, rfl, a, rfl, ⟨_, hS⟩, fun D nD => ?_⟩
      refine lc_tup (K := K) (a := a) (xs := xs) (fun i H' => Same H H' ∧ ∃ acc : List V, H' D = some (.lst acc) ∧ acc.length ≤ i ∧ acc.isEmpty = (xs.take i).all isI) ⟨sameU nD, [], upd_same, Nat.le_refl _, rfl⟩ (fun i H' _ ⟨e, _⟩ => sameT e hS) ?_ ?_
      · rintro i y H1 hy ⟨s1, acc, hD, al, ae⟩
        have hil := (List.getElem?_eq_some_iff.mp hy).1
        obtain ⟨d', _, hd'⟩ := ha.at1 hy
        have hT' : Bt K H y (tyD d') := dq_bt hd'
        obtain ⟨m1, m2, m3⟩ := isI_of (hT'.same s1)
        have step : ∀ b : Bool, isI y = !b → (if b = true then ∃ v, (some (some y) : Option (Option V)) = some (some v) ∧ ∃ acc, H1 D = some (.lst acc) ∧ acc.length < sizeLine ∧ Same H (upd H1 D (.lst (acc ++ [v]))) ∧ ∃ acc', upd H1 D (.lst (acc ++ [v])) D = some (.lst acc') ∧ acc'.length ≤ i + 1 ∧ acc'.isEmpty = (xs.take (i + 1)).all isI
            else Same H H1 ∧ ∃ acc : List V, H1 D = some (.lst acc) ∧ acc.length ≤ i + 1 ∧ acc.isEmpty = (xs.take (i + 1)).all isI) := by
          intro b hb
          cases b with
          | true =>
            refine iteT ⟨y, rfl, acc, hD, szl (by omega), same_own s1 nD, acc ++ [y], upd_same, by rw [List.length_append]; show acc.length + 1 ≤ i + 1; omega, ?_⟩
            rw [take_more hy, List.all_append, List.all_cons, hb]
            simp
          | false =>
            refine iteF ⟨s1, acc, hD, by omega, ?_⟩
            rw [take_more hy, List.all_append, List.all_cons, hb, ae]
            simp
        refine ⟨rfl, _, rfl, y, .ty "int", _, _, _, rfl, .ty _, hT'.same s1, m1, _, rfl, ?_⟩
        refine ite2 (fun c3 => ?_) (fun c3 => ?_)
        · refine step true ?_
          rw [m3]
          have : decide (tyD d' = "int" ∨ tyD d' = "bool") = false := by simpa using c3
          have h := of_decide_eq_false this
          exact decide_eq_false fun h' => h (.inl h')
        · refine ⟨_, rfl, y, .ty "bool", _, _, _, rfl, .ty _, hT'.same s1, m2, _, rfl, ?_⟩
          refine step _ ?_
          rw [m3]
          have c4 : decide (tyD d' = "int" ∨ tyD d' = "bool") = true := by
            have : ¬ (!decide (tyD d' = "int" ∨ tyD d' = "bool")) = true := c3
            simpa only [Bool.not_eq_true', Bool.not_eq_false] using this
          rcases of_decide_eq_true c4 with h | h
          · rw [h]; decide
          · rw [h]; decide
      · rintro H1 ⟨s1, acc, hD, al, ae⟩
        rw [List.take_length, isI_all ha] at ae
        refine ⟨Nat.zero_le _, fun e ne => ?_⟩
        have se : Same H1 (upd H1 e (.lst [])) := sameU ne
        refine ⟨D, e, acc, rfl, rfl, .inl (.inl (se _ _ hD)), .inl (.inl upd_same), _, rfl, ?_⟩
        rw [if_pos rfl, ae]
        have sA := s1.trans se
        generalize upd H1 e (.lst []) = H2 at *
        cases he : intsOf es with
        | none =>
          refine iteT ?_
          rw [eO he] at q
          exact q H2 sA
        | some w' =>
          refine iteF ?_
          obtain ⟨e1, e2⟩ := ints_of ha he
          subst e1
          rw [eN w' he] at q
          rw [List.length_map] at c' x6
          have hS2 := sameT sA hS
          refine ⟨_, rfl, a, rfl, ⟨_, hS2⟩, fun D2 nD2 => ?_⟩
          refine lc_tup (K := K) (a := a) (xs := w'.map V.int) (fun i H' => Same H2 H' ∧ H' D2 = some (.lst (((w'.take i).filter fun x => !decide (x ∈ r.2)).map V.int))) ⟨sameU nD2, upd_same⟩ (fun i H' _ ⟨e, _⟩ => sameT e hS2) ?_ ?_
          · rintro i y H3 hy ⟨s3, hD2⟩
            rw [List.getElem?_map] at hy
            obtain ⟨z, hz, rfl⟩ := Option.map_eq_some_iff.mp hy
            have st := filter_take_snoc (fun x => !decide (x ∈ r.2)) hz
            have hfl := List.length_filter_le (fun x => !decide (x ∈ r.2)) (w'.take i)
            rw [List.length_take] at hfl
            refine ⟨rfl, _, rfl, _, rfl, m, _, rfl, .inr (sameT (sA.trans s3) hM), rfl, flat_ints r.2, _, rfl, ?_⟩
            rw [if_pos rfl, inV_int]
            refine ite2 (fun c2 => ?_) (fun c2 => ?_)
            · refine ⟨_, rfl, _, hD2, szl (by rw [List.length_map]; omega), same_own s3 nD2, ?_⟩
              rw [upd_same, st, if_pos c2, List.map_append]
              rfl
            · refine ⟨s3, ?_⟩
              rw [st, if_neg c2, List.append_nil]
              exact hD2
          · rintro H3 ⟨s3, hD2⟩
            rw [List.length_map, List.take_length] at hD2
            refine ⟨Nat.zero_le _, fun e5 ne5 => ?_⟩
            have se5 : Same H3 (upd H3 e5 (.lst [])) := sameU ne5
            refine ⟨D2, e5, _, rfl, rfl, .inl (.inl (se5 _ _ hD2)), .inl (.inl upd_same), _, rfl, ?_⟩
            have sB := sA.trans (s3.trans se5)
            generalize upd H3 e5 (.lst []) = H4 at *
            rw [if_pos rfl]
            cases hf : (w'.filter fun x => !decide (x ∈ r.2)) with
            | cons z rest =>
              refine iteT ?_
              have hzf : z ∈ w'.filter fun x => !decide (x ∈ r.2) := by rw [hf]; simp
              have hz : z ∈ w' ∧ (!decide (z ∈ r.2)) = true := List.mem_filter.mp hzf
              have : decide (RowOk r w') = false := decide_eq_false fun h => by
                have := h.2.1 z hz.1
                have h2 := hz.2
                rw [decide_eq_true this] at h2
                cases h2
              rw [this] at q
              exact q H4 sB
            | nil =>
              refine iteF ?_
              have hm : ∀ z ∈ w', z ∈ r.2 := fun z hz => by
                by_cases h : z ∈ r.2
                · exact h
                · have : z ∈ w'.filter fun x => !decide (x ∈ r.2) := List.mem_filter.mpr ⟨hz, by rw [decide_eq_false h]; rfl⟩
                  rw [hf] at this
                  simp at this
              have hS4 := sameT sB hS
              refine ⟨_, rfl, a, _, rfl, .inr hS4, fun l nl => ?_⟩
              have s5 : Same H4 (upd H4 l (.lst (w'.map V.int))) := sameU nl
              have zl : upd H4 l (.lst (w'.map V.int)) l = some (.lst (w'.map V.int)) := upd_same
              generalize upd H4 l (.lst (w'.map V.int)) = H5 at *
              refine ⟨_, rfl, a, w', rfl, sameT (sB.trans s5) hS, by omega, fun st cc nst hcc => ?_⟩
              have s6 : Same H5 (upd H5 st (SetO w st (fun j => decide (j ∈ w')) cc)) := sameU nst
              refine ⟨st, _, cc, rfl, upd_same, by omega, fun ns p hp1 hp2 hp3 np => ?_⟩
              have s7 := s6.trans (sameU (o := .lst (ns.map V.int)) np)
              refine ⟨dI w', dI ns, dp_dI (.inl (.inl (s7 _ _ zl))), dp_dI (.inl (.inl upd_same)), shp_dI _, shp_dI _, ?_⟩
              have : decide (w' = ns) = decide (RowOk r w') := by
                rw [sorted_self hp1 (fun k => by rw [hp2]; exact decide_eq_true_iff)]
                rw [Bool.eq_iff_iff, decide_eq_true_eq, decide_eq_true_eq]
                exact ⟨fun h => ⟨h, hm, by omega⟩, fun h => h.1⟩
              rw [eqv_dI, this]
              exact q _ (sB.trans (s5.trans s7))
    | non => exact q H (Same.refl H)
    | bl b => exact q H (Same.refl H)
    | int b => exact q H (Same.refl H)
    | str b => exact q H (Same.refl H)
    | lst p e a => exact q H (Same.refl H)
    | dic e => exact q H (Same.refl H)
theorem scLRows : FnScope ["value", "readers", "works", "row", "reader"] ["value", "readers", "works"] (defScope sLRows) := ⟨rfl, rfl, rfl, by decide +kernel, rfl, by decide +kernel, by decide +kernel⟩
theorem ok_lRows {f fW : Addr} {fd fdW : FuncData} (F : Fun K "_law_are_rows" "_law_are_rows" sLRows f fd) (B : Bi mg) (Bs : mg "set" = none) (FW : Fun K "_law_is_row" "_law_is_row" sLRow fW fdW) (bW : Binds K fdW ["value", "reader", "works"] []) (gW : mg "_law_is_row" = some (.ref fW)) :
    FnOk P w K mg base CX0 2 f fd ["value", "readers", "works"] (spLRows K) := by
  have GW : FnOk P w K mg base CX0 1 fW fdW ["value", "reader", "works"] (spPkRow K) := ok_lRow FW B Bs
  refine F.ok scLRows (fun vs H Q E h => ?_) (fun cdv A outer s H vs Q E hr h => ?_)
  · obtain ⟨P', v, d, R, us, rs, n, rfl, _⟩ := h
    rfl
  · obtain ⟨P', v, d, R, us, rs, n, rfl, hd, hR, hP, hok, r6, hn0, hn, q⟩ := h
    refine ⟨_, pss_cons (ps_if (PW.pt (pw_or (pt_not (pt_val (pe_callB call_isi (by rfl) B.isinstance (by decide +kernel) (pa_cons (pv 0) (pa_cons (pe_bltn (v := .ty "list") (by rfl) B.list (by decide +kernel) rfl) pa_nil)))))
          (pw_or1 (pt_cmpR op_ne (pe_callB call_len_seq (by rfl) B.len PySem.boot_len (pa_cons (pv 0) pa_nil)) (pe_callB call_len_seq (by rfl) B.len PySem.boot_len (pa_cons (pv 1) pa_nil)) (nomark _))))) (pss_one (ps_ret pe_bl)) pss_nil)
      (pss_one (ps_ret (pe_cmpR (op_eqNil (Nat.lt_of_le_of_lt (Nat.le_add_right _ 64) hr.units))
        (pe_lc (own := [("row", 3), ("reader", 4)]) (g := gTup K 2 (gCons (gName 3) (gCons (gName 4) gNil))) (tt := tNot (tTest (tCall (spPkRow K) [] E0 (tCons (tVar 3) (tCons (tVar 4) (tCons (tVar 2) tNil)))))) (te := tC (.int 1)) rfl scLRows.nd (pi_zip (by rfl) B.zip (pa_cons (pv 0) (pa_cons (pv 1) pa_nil)))
          (blkOk_by (own := [("row", 3), ("reader", 4)]) (N := ["value", "readers", "works", "row", "reader"]) (sc := defScope sLRows) (by decide +kernel))
          (fun _ _ _ _ _ => pg_tup (by rfl) (pgs_cons (pg_name (i := 3) scLRows.nd rfl (.inl rfl)) (pgs_cons (pg_name (i := 4) scLRows.nd rfl (.inl rfl)) pgs_nil)))
          (fun _ _ _ _ _ => pts_one (pt_not (pt_val (pe_call GW hr (by rfl) gW FW.kp bW .nil pass0 (pa_cons (pv 3) (pa_cons (pv 4) (pa_cons (pv 2) pa_nil)))))))
          (fun _ _ _ _ _ => pe_int)) (pe_lst pa_nil) (nomark _)))), ?_⟩
    obtain ⟨_, k1⟩ := isT_of (dq_bt hd)
    refine ⟨_, rfl, v, .ty "list", _, _, _, rfl, .ty _, dq_bt hd, k1, _, rfl, ?_⟩
    cases hd with
    | @lst a xs es pa ea ha =>
      show (if (!decide ("list" = "list")) = true then _ else _)
      refine iteNS rfl ?_
      have hul : us.length = rs.length := Paired.len hP
      have hxl := ha.len
      refine ⟨_, rfl, a, xs, rfl, .inl (.inl (.inl ea)), _, rfl, R, us, rfl, .inl hR, rfl, _, rfl, ?_⟩
      by_cases el : xs.length = us.length
      · have e1 : decide (V.int ((xs.length : Nat) : Int) = V.int ((us.length : Nat) : Int)) = true := decide_eq_true (by rw [el])
        rw [e1]
        refine iteF ?_
        refine ⟨_, rfl, _, rfl, a, R, xs, us, rfl, .inl (.inl ea), hR, fun D nD => ?_⟩
        refine lc_it (walk_zip (xs := xs) (ys := us) (n := xs.length) (by omega)) (fun i H' => Same H H' ∧ ∃ acc : List V, H' D = some (.lst acc) ∧ acc.length ≤ i ∧ acc.isEmpty = ((es.zip rs).take i).all fun z => isRowD z.2 z.1) ⟨sameU nD, [], upd_same, Nat.le_refl _, rfl⟩ (fun i H' _ ⟨e, _⟩ => ⟨.inl (.inl (e _ _ ea)), e.seq hR⟩) ?_ ?_
        · rintro i y H2 H3 hi ⟨s2, acc, hD, al, ae⟩ ⟨tt, x1, x2, rfl, nt, rfl, f1, f2⟩
          obtain ⟨e, he, hde⟩ := ha.at1 f1
          obtain ⟨r, hr2, rd⟩ := Paired.at1 hP f2
          have sT : Same H (upd H2 tt (.tup [x1, x2])) := s2.trans (sameU nt)
          refine ⟨tt, _, rfl, .inl (.inl upd_same), rfl, _, _, rfl, _, _, rfl, rfl, rfl, ?_⟩
          have hD2 := sameU (o := .tup [x1, x2]) nt _ _ hD
          generalize upd H2 tt (.tup [x1, x2]) = H4 at *
          refine ⟨_, rfl, _, rfl, _, rfl, P', x1, x2, e, r, n, rfl, hde.over (over_same sT), rd.same sT, hok r (List.mem_of_getElem? hr2), hn, hn0, fun H5 s5 => ⟨_, rfl, ?_⟩⟩
          have hD5 := s5 _ _ hD2
          have tz := take_more (zip_at he hr2)
          cases hb : isRowD r e with
          | true =>
            refine iteF ⟨sT.trans s5, acc, hD5, by omega, ?_⟩
            rw [tz, List.all_append, List.all_cons, hb, ae]
            simp
          | false =>
            refine iteT ⟨acc, hD5, szl (by omega), same_own (sT.trans s5) nD, acc ++ [.int 1], upd_same, by rw [List.length_append]; show acc.length + 1 ≤ i + 1; omega, ?_⟩
            rw [tz, List.all_append, List.all_cons, hb]
            simp
        · rintro H2 ⟨s2, acc, hD, al, ae⟩
          have hz : (es.zip rs).length = xs.length := by rw [List.length_zip]; omega
          rw [← hz, List.take_length] at ae
          refine ⟨Nat.zero_le _, fun e ne => ?_⟩
          have se : Same H2 (upd H2 e (.lst [])) := sameU ne
          refine ⟨D, e, acc, rfl, rfl, .inl (.inl (se _ _ hD)), .inl (.inl upd_same), ?_⟩
          rw [if_neg Bool.false_ne_true, ae]
          have e2 : ((es.zip rs).all fun z => isRowD z.2 z.1) = areRowsD rs (.list es) := by
            show _ = (decide (es.length = rs.length) && (es.zip rs).all fun p => isRowD p.2 p.1)
            rw [decide_eq_true (by omega), Bool.true_and]
          rw [e2]
          exact q _ (s2.trans se)
      · have e1 : decide (V.int ((xs.length : Nat) : Int) = V.int ((us.length : Nat) : Int)) = false := decide_eq_false fun h => el (by have := V.int.inj h; omega)
        rw [e1]
        refine iteT ?_
        have e2 : areRowsD rs (.list es) = false := by
          show (decide (es.length = rs.length) && _) = false
          rw [decide_eq_false (by omega), Bool.false_and]
        rw [e2] at q
        exact q H (Same.refl H)
    | non => exact q H (Same.refl H)
    | bl b => exact q H (Same.refl H)
    | int b => exact q H (Same.refl H)
    | str b => exact q H (Same.refl H)
    | tup _ _ => exact q H (Same.refl H)
    | dic e => exact q H (Same.refl H)
end
end Ew
namespace Ew
open PySem PySem.Spec PyProof.Rows L2
section
variable {P : Program} {w : World} {K : PySem.W.Frag} {mg : Str → Option Value} {base : Heap} {C : Addr}
theorem scKept : FnScope ["demands", "rows", "absent", "here", "at", "row", "wanted", "many"] ["demands", "rows", "absent"] (defScope sKept) := ⟨rfl, rfl, rfl, by decide +kernel, rfl, by decide +kernel, by decide +kernel⟩
theorem ok_kept {f fT : Addr} {fd fdT : FuncData} (F : Fun K "_law_kept_times" "_law_kept_times" sKept f fd) (B : Bi mg) (FT : Fun K "_law_times" "_law_times" sTimes fT fdT) (bT : Binds K fdT ["rows", "works"] []) (gT : mg "_law_times" = some (.ref fT)) : FnOk P w K mg base CX0 2 f fd ["demands", "rows", "absent"] (spKept K) := by
  have GT : FnOk P w K mg base CX0 1 fT fdT ["rows", "works"] (spTimes K) := ok_times FT B
  refine F.ok scKept (fun vs H Q E h => ?_) (fun cdv A outer s H vs Q E hr h => ?_)
  · obtain ⟨D, W, ab, ds, vw, ws, as, n, rfl, _⟩ := h
    rfl
  · obtain ⟨Dm, W, ab, ds, vw, ws, as, n, rfl, hD0, hdl, hW, hn, hA, q⟩ := h
    refine ⟨_, (pss_cons (ps_setLc (i := 3) (own := [("at", 4), ("row", 5)]) (g := gTup K 2 (gCons (gName 4) (gCons (gName 5) gNil))) (tt := tTest (tOp (rIn K true) (tVar 4) (tVar 2))) (te := tVar 5) rfl scKept.nd rfl rfl rfl (pi_enum (by rfl) B.enumerate (pa_cons (pv 1) pa_nil))
          (blkOk_by (own := [("at", 4), ("row", 5)]) (N := ["demands", "rows", "absent", "here", "at", "row", "wanted", "many"]) (sc := defScope sKept) (by decide +kernel))
          (fun _ _ _ _ _ => pg_tup (by rfl) (pgs_cons (pg_name (i := 4) scKept.nd rfl (.inl rfl)) (pgs_cons (pg_name (i := 5) scKept.nd rfl (.inl rfl)) pgs_nil)))
          (fun _ _ _ _ _ => pts_one (pt_cmpR op_notIn_seq (pv 4) (pv 2) (by rfl))) (fun _ _ _ _ _ => pv 5))
 (pss_one (ps_ret (pe_lc (own := [("wanted", 6), ("many", 7)]) (g := gTup K 2 (gCons (gName 6) (gCons (gName 7) gNil))) (tt := tYes) (te := tCB (fun xs H Q => ∃ i j, xs = [V.int i, V.int j] ∧ Q (V.int (if j > i then j else i)) H) (tCons (tVar 6) (tCons (tVar 7) tNil))) rfl scKept.nd
          (pi_zip (by rfl) B.zip (pa_cons (pv 0) (pa_cons (pe_call GT hr (by rfl) gT FT.kp bT .nil pass0 (pa_cons (pv 3) (pa_cons (pe_callB call_len_seq (by rfl) B.len PySem.boot_len (pa_cons (pv 0) pa_nil)) pa_nil))) pa_nil)))
          (blkOk_by (own := [("wanted", 6), ("many", 7)]) (N := ["demands", "rows", "absent", "here", "at", "row", "wanted", "many"]) (sc := defScope sKept) (by decide +kernel))
          (fun _ _ _ _ _ => pg_tup (by rfl) (pgs_cons (pg_name (i := 6) scKept.nd rfl (.inl rfl)) (pgs_cons (pg_name (i := 7) scKept.nd rfl (.inl rfl)) pgs_nil))) (fun _ _ _ _ _ => pts_nil)
          (fun _ _ _ _ _ => pe_callB (call_max2 rfl) (by rfl) B.max (by decide +kernel) (pa_cons (pv 6) (pa_cons (pv 7) pa_nil))))))), ?_⟩
    obtain ⟨w1, w2, w3⟩ := hW
    have hwl : vw.length = ws.length := Paired.len w2
    refine ⟨_, rfl, W, vw, rfl, w1, fun D nD => ?_⟩
    refine lc_it (walk_enum (xs := vw)) (fun i H' => Same H H' ∧ ∃ vs, H' D = some (.lst vs) ∧ Paired (RowT K H') vs (presR as 0 (ws.take i))) ⟨sameU nD, [], upd_same, .nil⟩ (fun i H' _ ⟨e, _⟩ => e.seq w1) ?_ ?_
    · rintro i x H1 H2 hi ⟨s1, vs, hD, p1⟩ ⟨T, x1, x2, rfl, nT, rfl, f1, f2⟩
      obtain ⟨r, hr2, rv⟩ := Paired.at1 w2 f2
      obtain rfl : V.int (i : Nat) = x1 := Option.some.inj f1
      have sT : Same H1 (upd H1 T (.tup [V.int (i : Nat), x2])) := sameU nT
      refine ⟨T, _, rfl, .inl (.inl upd_same), rfl, _, _, rfl, _, _, rfl, rfl, rfl, ?_⟩
      generalize upd H1 T (.tup [V.int (i : Nat), x2]) = H3 at *
      have s3 := s1.trans sT
      have hD3 := sT _ _ hD
      have p3 := L2.Paired.mapP p1 fun _ _ z => RowT.same sT z
      have hl := presR_len as (ws.take i) 0
      rw [List.length_take] at hl
      have hvs : vs.length ≤ 60 := by rw [Paired.len p1]; omega
      refine ⟨_, rfl, _, rfl, ab, _, rfl, .inr (sameT s3 hA), rfl, flat_ints as, _, rfl, ?_⟩
      rw [if_pos rfl, inV_int]
      have e : min i ws.length = i := by omega
      have ps := presR_snoc as r (ws.take i) 0
      rw [← take_more hr2, List.length_take, e, Nat.zero_add] at ps
      by_cases hm : ((i : Nat) : Int) ∈ as
      · rw [decide_eq_true hm]
        rw [if_pos hm, List.append_nil] at ps
        refine iteF ⟨s3, vs, hD3, ?_⟩
        rw [ps]
        exact p3
      · rw [decide_eq_false hm]
        rw [if_neg hm] at ps
        refine iteT ⟨_, rfl, vs, hD3, szl (by omega), same_own s3 nD, vs ++ [x2], upd_same, ?_⟩
        rw [ps]
        exact Paired.snoc (L2.Paired.mapP p3 fun _ _ z => RowT.upd hD3 z) (RowT.upd hD3 (rv.same s3))
    · rintro H1 ⟨s1, vs, hD, p1⟩
      rw [hwl, List.take_length] at p1
      have hl := presR_len as ws 0
      have ek : kept ds ws as = (ds.zip (times (presR as 0 ws) ds.length)).map fun p => if p.2 > p.1 then p.2 else p.1 := rfl
      refine ⟨_, rfl, _, rfl, _, rfl, Dm, _, rfl, .inl (s1.seq hD0), D, vs, presR as 0 ws, ds.length, by rw [List.length_map]; rfl, .inl (.inl hD), p1, by omega, hdl, fun H2 p s2 np hp => ?_⟩
      have tl := times_len (presR as 0 ws) ds.length
      generalize times (presR as 0 ws) ds.length = ts at *
      have sB := s1.trans s2
      have hDs := sB.seq hD0
      refine ⟨Dm, p, _, _, rfl, hDs, .inl (.inl hp), fun D2 nD2 => ?_⟩
      refine lc_it (walk_zip (xs := ds.map V.int) (ys := ts.map V.int) (n := ds.length) (by rw [List.length_map, List.length_map]; omega)) (fun i H' => Same H2 H' ∧ H' D2 = some (.lst ((((ds.zip ts).take i).map fun p => if p.2 > p.1 then p.2 else p.1).map V.int))) ⟨sameU nD2, upd_same⟩ (fun i H' _ ⟨e, _⟩ => ⟨e.seq hDs, .inl (.inl (e _ _ hp))⟩) ?_ ?_
      · rintro i y H5 H6 hi ⟨s5, hD5⟩ ⟨tt, x1, x2, rfl, nt, rfl, f1, f2⟩
        replace f1 : (ds.map V.int)[i]? = some x1 := f1
        replace f2 : (ts.map V.int)[i]? = some x2 := f2
        rw [List.getElem?_map] at f1 f2
        obtain ⟨z1, hz1, rfl⟩ := Option.map_eq_some_iff.mp f1
        obtain ⟨z2, hz2, rfl⟩ := Option.map_eq_some_iff.mp f2
        have sT := s5.trans (sameU (o := .tup [V.int z1, V.int z2]) nt)
        refine ⟨tt, _, rfl, .inl (.inl upd_same), rfl, _, _, rfl, _, _, rfl, rfl, rfl, ?_⟩
        dsimp only [tYes]
        refine iteT ?_
        have hD2 := sameU (o := .tup [V.int z1, V.int z2]) nt _ _ hD5
        refine ⟨_, rfl, _, rfl, _, _, rfl, _, hD2, szl (by rw [List.length_map, List.length_map, List.length_take, List.length_zip]; omega), same_own sT nD2, ?_⟩
        rw [upd_same, take_more (zip_at hz1 hz2), List.map_append, List.map_append]
        rfl
      · rintro H5 ⟨s5, hD5⟩
        have hz : (ds.zip ts).length = ds.length := by rw [List.length_zip]; omega
        rw [← hz, List.take_length, ← ek] at hD5
        exact q H5 D2 (sB.trans s5) (sB.free nD2) hD5
theorem scLExt : FnScope ["demands", "readers", "rows", "absent", "value", "at", "row", "lost", "work"] ["demands", "readers", "rows", "absent", "value"] (defScope sLExt) := ⟨rfl, rfl, rfl, by decide +kernel, rfl, by decide +kernel, by decide +kernel⟩
/-- the law's small defs of rows -/
structure LRws (K : PySem.W.Frag) (mg : Str → Option Value) : Prop where
  set_ : mg "set" = none
  row : ∃ f fd, Fun K "_law_is_row" "_law_is_row" sLRow f fd ∧ Binds K fd ["value", "reader", "works"] [] ∧ mg "_law_is_row" = some (.ref f)
  rows : ∃ f fd, Fun K "_law_are_rows" "_law_are_rows" sLRows f fd ∧ Binds K fd ["value", "readers", "works"] [] ∧ mg "_law_are_rows" = some (.ref f)
  kept : ∃ f fd, Fun K "_law_kept_times" "_law_kept_times" sKept f fd ∧ Binds K fd ["demands", "rows", "absent"] [] ∧ mg "_law_kept_times" = some (.ref f)
  ext : ∃ f fd, Fun K "_law_extends" "_law_extends" sLExt f fd ∧ Binds K fd ["demands", "readers", "rows", "absent", "value"] [] ∧ mg "_law_extends" = some (.ref f)
  gone : ∃ f fd, Fun K "_law_gone" "_law_gone" sGone f fd ∧ Binds K fd ["feed", "readers"] [] ∧ mg "_law_gone" = some (.ref f)
  prs : ∃ f fd, Fun K "_law_present" "_law_present" sPrs f fd ∧ Binds K fd ["readers", "absent"] [] ∧ mg "_law_present" = some (.ref f)
theorem ok_lExt {f : Addr} {fd : FuncData} (F : Fun K "_law_extends" "_law_extends" sLExt f fd) (L : Low K mg) (R : LRws K mg) : FnOk P w K mg base CX0 3 f fd ["demands", "readers", "rows", "absent", "value"] (spLExt K) := by
  obtain ⟨B, _, _, _, _, _, ⟨fT, fdT, FT, bT, gT⟩, _⟩ := L
  obtain ⟨Bs, ⟨fW, fdW, FW, bW, gW⟩, ⟨fO, fdO, FO, bO, gO⟩, ⟨fK, fdK, FK, bK, gK⟩, _⟩ := R
  have GT : FnOk P w K mg base CX0 1 fT fdT ["rows", "works"] (spTimes K) := ok_times FT B
  have GK : FnOk P w K mg base CX0 2 fK fdK ["demands", "rows", "absent"] (spKept K) := ok_kept FK B FT bT gT
  have GO : FnOk P w K mg base CX0 2 fO fdO ["value", "readers", "works"] (spLRows K) := ok_lRows FO B Bs FW bW gW
  refine F.ok scLExt (fun vs H Q E h => ?_) (fun cdv A outer s H vs Q E hr h => ?_)
  · obtain ⟨P', D, R, W, ab, v, d, ds, us, rs, vw, ws, as, rfl, _⟩ := h
    rfl
  · obtain ⟨P', D, R, W, ab, v, d, ds, us, rs, vw, ws, as, rfl, hD, hR, hP, ok, hW, hl, hA, hv, q⟩ := h
    have hr1 := hr.mono (show 1 ≤ 2 by decide)
    have n6 := ok.n6
    have r6 := ok.r6
    refine ⟨_, (pss_cons (ps_if (pt_not (pt_val (pe_call GO hr (by rfl) gO FO.kp bO .nil pass0 (pa_cons (pv 4) (pa_cons (pv 1) (pa_cons (pe_callB call_len_seq (by rfl) B.len PySem.boot_len (pa_cons (pv 0) pa_nil)) pa_nil)))))) (pss_one (ps_ret pe_bl)) pss_nil)
 (pss_cons (ps_for PassesOwn.never rfl (pi_enum (by rfl) B.enumerate (pa_cons (pv 4) pa_nil)) (pg_tup (by rfl) (pgs_cons (pg_name (i := 5) scLExt.nd rfl (.inl rfl)) (pgs_cons (pg_name (i := 6) scLExt.nd rfl (.inr rfl)) pgs_nil)))
        (pss_cons (ps_setLc (i := 7) (own := [("work", 8)]) (g := gName 8) (tt := tTest (tOp (rIn K true) (tVar 8) (tVar 6))) (te := tVar 8) rfl scLExt.nd rfl rfl rfl (pi_tup (pe_ix ix_list (pv 2) (pv 5) (fun _ _ => rfl))) (blkOk_by (own := [("work", 8)]) (N := ["demands", "readers", "rows", "absent", "value", "at", "row", "lost", "work"]) (sc := defScope sLExt) (by decide +kernel))
            (fun _ _ _ _ _ => pg_name (i := 8) scLExt.nd rfl (.inl rfl)) (fun _ _ _ _ _ => pts_one (pt_cmpR op_notIn_seq (pv 8) (pv 6) (by rfl))) (fun _ _ _ _ _ => pv 8))
 (pss_one (ps_if (PW.pt (pw_or (PW.pt (pw_and (pt_cmpR op_in_seq (pv 5) (pv 3) (by rfl)) (pw_and1 (pt_cmpR (op_neD hr.units) (pv 6) (pe_tup pa_nil) (nomark _)))))
            (pw_or1 (PW.pt (pw_and (pt_cmpR op_notIn_seq (pv 5) (pv 3) (by rfl)) (pw_and1 (pt_cmpR (op_neD hr.units) (pv 7) (pe_lst pa_nil) (nomark _)))))))) (pss_one (ps_ret pe_bl)) pss_nil))))
 (pss_one (ps_ret (pe_cmpR (op_eqD hr.units) (pe_call GT hr1 (by rfl) gT FT.kp bT .nil pass0 (pa_cons (pv 4) (pa_cons (pe_callB call_len_seq (by rfl) B.len PySem.boot_len (pa_cons (pv 0) pa_nil)) pa_nil)))
        (pe_call GK hr (by rfl) gK FK.kp bK .nil pass0 (pa_cons (pv 0) (pa_cons (pv 2) (pa_cons (pv 3) pa_nil)))) (nomark _)))))), ?_⟩
    refine ⟨_, rfl, _, rfl, _, rfl, D, _, rfl, .inl hD, P', v, d, R, us, rs, _, rfl, hv, hR, hP, by rw [List.length_map]; exact ok.ok, r6, by omega, by rw [List.length_map]; omega, fun H1 s1 => ⟨_, rfl, ?_⟩⟩
    cases ha : areRowsD rs d with
    | false =>
      refine iteT ?_
      have : extV ds rs ws as (some d) = false := by unfold extV; rw [show areV rs (some d) = false from ha]; rfl
      rw [this] at q
      exact q H1 s1
    | true =>
      refine iteF ?_
      obtain ⟨a, es, xs, vs, ed, rfl, pa, hxa, ees, hU, hRo⟩ := val_rows (x := D) (show Val K P' H D v (some d) from hv) ha
      cases ed
      rw [extV_rows ha ees] at q
      obtain ⟨w1, w2, w3⟩ := hW.same s1
      obtain ⟨u1, u2, u3⟩ := hU.same s1
      have hul : xs.length = vs.length := Paired.len u2
      have hwl : vw.length = ws.length := Paired.len w2
      have hA1 := sameT s1 hA
      refine ⟨_, rfl, a, xs, rfl, u1, for_it (walk_enum (xs := xs)) (fun i σ H' => ∃ y5 y6 y7, σ = [some (.ref D), some (.ref R), some (.ref W), some (.ref ab), some (.ref a), y5, y6, y7, none] ∧ Same H1 H' ∧ contB as 0 ws vs = contB as i (ws.drop i) (vs.drop i)) ⟨none, none, none, rfl, Same.refl H1, rfl⟩ (fun i σ H' _ ⟨_, _, _, _, e, _⟩ => e.seq u1) ?_ ?_⟩
      · rintro i v σ H2 H3 hi ⟨y5, y6, y7, rfl, s2, ec⟩ ⟨t, x1, x2, rfl, nt, rfl, f1, f2⟩
        obtain rfl : V.int (i : Nat) = x1 := Option.some.inj f1
        obtain ⟨r, hr2, tr, rfl, hRt⟩ := Paired.at1 u2 f2
        have sT : Same H1 (upd H2 t (.tup [V.int (i : Nat), .ref tr])) := s2.trans (sameU nt)
        refine ⟨t, _, rfl, .inl (.inl upd_same), rfl, _, _, rfl, _, _, rfl, rfl, ?_⟩
        generalize upd H2 t (.tup [V.int (i : Nat), .ref tr]) = H4 at *
        have hiu : i < vs.length := by omega
        have hiw : i < ws.length := by omega
        obtain ⟨wr, hwr⟩ : ∃ wr, ws[i]? = some wr := ⟨_, List.getElem?_eq_getElem hiw⟩
        have du : vs.drop i = r :: vs.drop (i + 1) := by
          have hl := (List.getElem?_eq_some_iff.mp hr2)
          rw [List.drop_eq_getElem_cons hl.1, hl.2]
        have dw : ws.drop i = wr :: ws.drop (i + 1) := by
          have hl := (List.getElem?_eq_some_iff.mp hwr)
          rw [List.drop_eq_getElem_cons hl.1, hl.2]
        have ec2 : contB as 0 ws vs = ((if ((i : Nat) : Int) ∈ as then decide (r = []) else wr.all fun x => decide (x ∈ r)) && contB as (i + 1) (ws.drop (i + 1)) (vs.drop (i + 1))) := by
          rw [ec, du, dw]
          rfl
        obtain ⟨vr, hvr, tw, rfl, hWr⟩ := Paired.at2 w2 hwr
        have hWr4 := sameT sT hWr
        have hR4 := sameT sT hRt
        have wl := hl wr (List.mem_of_getElem? hwr)
        refine ⟨_, rfl, _, rfl, W, vw, (i : Int), _, rfl, rfl, sT.seq w1, atI_nat hvr, tw, rfl, ⟨_, hWr4⟩, fun Dl nDl => ?_⟩
        refine lc_tup (K := K) (a := tw) (xs := wr.map V.int) (fun j H' => Same H4 H' ∧ H' Dl = some (.lst (((wr.take j).filter fun x => !decide (x ∈ r)).map V.int))) ⟨sameU nDl, upd_same⟩ (fun j H' _ ⟨e, _⟩ => sameT e hWr4) ?_ ?_
        · rintro j y H5 hy ⟨s5, hDl⟩
          rw [List.getElem?_map] at hy
          obtain ⟨z, hz, rfl⟩ := Option.map_eq_some_iff.mp hy
          have st := filter_take_snoc (fun x => !decide (x ∈ r)) hz
          have hfl := List.length_filter_le (fun x => !decide (x ∈ r)) (wr.take j)
          rw [List.length_take] at hfl
          refine ⟨rfl, _, rfl, _, rfl, tr, _, rfl, .inr (sameT s5 hR4), rfl, flat_ints r, _, rfl, ?_⟩
          rw [if_pos rfl, inV_int]
          refine ite2 (fun c2 => ?_) (fun c2 => ?_)
          · refine ⟨_, rfl, _, hDl, szl (by rw [List.length_map]; omega), same_own s5 nDl, ?_⟩
            rw [upd_same, st, if_pos c2, List.map_append]
            rfl
          · refine ⟨s5, ?_⟩
            rw [st, if_neg c2, List.append_nil]
            exact hDl
        · rintro H5 ⟨s5, hDl⟩
          rw [List.length_map, List.take_length] at hDl
          have s6 := sT.trans s5
          have hA5 := sameT s6 hA1
          refine ⟨_, rfl, _, rfl, ab, _, rfl, .inr hA5, rfl, flat_ints as, _, rfl, ?_⟩
          rw [if_neg Bool.false_ne_true, inV_int]
          by_cases hm : ((i : Nat) : Int) ∈ as
          · rw [decide_eq_true hm]
            rw [if_pos hm] at ec2
            refine iteT ?_
            refine ⟨_, rfl, Nat.zero_le _, fun e0 ne0 => ?_⟩
            have se0 : Same H5 (upd H5 e0 (.tup [])) := sameU ne0
            refine ⟨dT r, dT [], dp_dT ⟨tr, rfl, sameT (s5.trans se0) hR4⟩, .tup (.inl (.inl upd_same)) .nil, shp_dT _, shp_dT _, _, rfl, ?_⟩
            rw [eqv_dT]
            have s7 := s6.trans se0
            have hA7 := sameT s7 hA1
            generalize upd H5 e0 (.tup []) = H7 at *
            cases hr0 : decide (r = []) with
            | true =>
              refine iteF ?_
              refine ⟨_, rfl, _, rfl, ab, _, rfl, .inr hA7, rfl, flat_ints as, _, rfl, ?_⟩
              rw [if_pos rfl, inV_int, decide_eq_true hm]
              refine iteF (iteF ⟨_, _, _, rfl, s7, ?_⟩)
              rw [ec2, hr0]
              exact Bool.true_and _
            | false =>
              refine iteT (iteT ?_)
              unfold extB at q
              rw [show contB as 0 ws vs = false from by rw [ec2, hr0]; rfl] at q
              exact q H7 (s1.trans s7)
          · rw [decide_eq_false hm]
            rw [if_neg hm] at ec2
            refine iteF (iteF ?_)
            refine ⟨_, rfl, _, rfl, ab, _, rfl, .inr hA5, rfl, flat_ints as, _, rfl, ?_⟩
            rw [if_pos rfl, inV_int, decide_eq_false hm]
            refine iteT ?_
            refine ⟨_, rfl, Nat.zero_le _, fun e0 ne0 => ?_⟩
            have se0 : Same H5 (upd H5 e0 (.lst [])) := sameU ne0
            refine ⟨dI _, dI [], dp_dI (.inl (.inl (se0 _ _ hDl))), .lst (.inl (.inl upd_same)) .nil, shp_dI _, shp_dI _, _, rfl, ?_⟩
            rw [eqv_dI]
            have s7 := s6.trans se0
            generalize upd H5 e0 (.lst []) = H7 at *
            have el : decide ((wr.filter fun x => !decide (x ∈ r)) = []) = wr.all fun x => decide (x ∈ r) := by
              rw [Bool.eq_iff_iff, decide_eq_true_eq, List.filter_eq_nil_iff, List.all_eq_true]
              simp only [Bool.not_eq_true', decide_eq_false_iff_not, Decidable.not_not, decide_eq_true_eq]
            rw [el]
            cases hc : (wr.all fun x => decide (x ∈ r)) with
            | true =>
              refine iteF ⟨_, _, _, rfl, s7, ?_⟩
              rw [ec2, hc]
              exact Bool.true_and _
            | false =>
              refine iteT ?_
              unfold extB at q
              rw [show contB as 0 ws vs = false from by rw [ec2, hc]; rfl] at q
              exact q H7 (s1.trans s7)
      · rintro σ H2 ⟨y5, y6, y7, rfl, s2, ec⟩
        have hc : contB as 0 ws vs = true := by
          rw [ec, List.drop_of_length_le (by omega), List.drop_of_length_le (by omega)]
          rfl
        unfold extB at q
        rw [hc, Bool.true_and] at q
        have sB := s1.trans s2
        refine ⟨_, rfl, _, rfl, D, _, rfl, .inl (sB.seq hD), a, xs, vs, ds.length, by rw [List.length_map]; rfl, s2.seq u1, L2.Paired.mapP u2 fun _ _ z => z.same s2, by omega, by omega, fun H3 p s3 np hp => ?_⟩
        have sC := sB.trans s3
        refine ⟨_, rfl, _, rfl, _, rfl, D, W, ab, ds, vw, ws, as, rs.length, rfl, sC.seq hD, by omega, hW.same sC, by omega, sameT sC hA, fun H4 p2 s4 np2 hp2 => ?_⟩
        refine ⟨dI (times vs ds.length), dI (kept ds ws as), dp_dI (.inl (.inl (s4 _ _ hp))), dp_dI (.inl (.inl hp2)), shp_dI _, shp_dI _, ?_⟩
        rw [eqv_dI]
        exact q H4 (sC.trans s4)
end
end Ew
namespace Ew
open PySem PySem.Spec PyProof.Rows L2
abbrev sNearRow : Stmt := (top 37)
def spNearRow (K : PySem.W.Frag) : Sp := fun vs H Q _ => ∃ (f : Addr) (v : V) (w : List Int) (n : Int), vs = [.ref f, v, .int n] ∧ FeedAt H f ∧ RowT K H v w ∧ w.length ≤ 6 ∧ (∀ x ∈ w, Dig x) ∧ 1 ≤ n ∧ n ≤ 6 ∧
  ∀ H' u, Ext1 f H H' → Nice K (fun p => H p = none) 2 400 H' u → Q u H'
section
variable {P : Program} {w : World} {K : PySem.W.Frag} {mg : Str → Option Value} {base : Heap} {C : Addr}
theorem ints_mid (a c : List Int) (k : Int) : a.map V.int ++ [V.int k] ++ c.map V.int = (a ++ [k] ++ c).map V.int := by
  rw [List.map_append, List.map_append]
  rfl
theorem dig_of {i : Int} (h0 : 0 ≤ i) (h1 : i < 10) : Dig i := ⟨h0, h1⟩
theorem scNearRow : FnScope ["feed", "row", "works", "one", "at", "some", "other"] ["feed", "row", "works"] (defScope sNearRow) := ⟨rfl, rfl, rfl, by decide +kernel, rfl, by decide +kernel, by decide +kernel⟩
theorem ok_nearRow {f : Addr} {fd : FuncData} (F : Fun K "_law_near_row" "_law_near_row" sNearRow f fd) (L : Low K mg) : FnOk P w K mg base CX0 3 f fd ["feed", "row", "works"] (spNearRow K) := by
  obtain ⟨B, _, ⟨fT, fdT, FT, bT, gT⟩, ⟨fP, fdP, FP, bP, gP⟩, _⟩ := L
  have GT : FnOk P w K mg base CX0 1 fT fdT ["feed", "many"] spTake := ok_take FT B
  have GP : FnOk P w K mg base CX0 2 fP fdP ["feed", "some"] (spPick K) := ok_pick FP FT bT gT B
  refine F.ok scNearRow (fun vs H Q E h => ?_) (fun cdv A outer s H vs Q E hr h => ?_)
  · obtain ⟨f, v, w, n, rfl, _⟩ := h
    rfl
  · obtain ⟨f, v, w, n, rfl, hF, ⟨t, rfl, hT⟩, wl, wd, n1, n6, q⟩ := h
    have hr1 := hr.mono (show 1 ≤ 2 by decide)
    refine ⟨_, (pss_cons (ps_set (i := 3) scNearRow.nd rfl (.inl rfl) (pe_call GP hr (by rfl) gP FP.kp bP .nil pass0 (pa_cons (pv 0) (pa_cons (pe_lst (pa_cons pe_non (pa_cons pe_bl (pa_cons pe_bl (pa_cons (pe_un un_neg pe_int) (pa_cons (pv 2) (pa_cons pe_str (pa_cons (pe_lst pa_nil) (pa_cons pe_dnewK (pa_cons pe_int (pa_cons pe_int (pa_cons (pe_op op_sub (pv 2) pe_int) pa_nil)))))))))))) pa_nil))))
 (pss_cons (ps_set (i := 4) scNearRow.nd rfl (.inl rfl) (pe_call GT hr1 (by rfl) gT FT.kp bT .nil pass0 (pa_cons (pv 0) (pa_cons (pe_op op_add (pe_callB call_len_seq (by rfl) B.len PySem.boot_len (pa_cons (pv 1) pa_nil)) pe_int) pa_nil))))
 (pss_cons (ps_set (i := 5) scNearRow.nd rfl (.inl rfl) (pe_lst
        (pa_cons (pe_op op_cat1 (pe_op op_cat1 (pe_slice sl_tup1 (pv 1) po_none (po_some (pv 4))) (pe_tup (pa_cons (pv 3) pa_nil))) (pe_slice sl_tup1 (pv 1) (po_some (pe_op op_add (pv 4) pe_int)) po_none))
        (pa_cons (pe_op op_cat1 (pe_op op_cat1 (pe_slice sl_tup1 (pv 1) po_none (po_some (pv 4))) (pe_tup (pa_cons (pv 3) pa_nil))) (pe_slice sl_tup1 (pv 1) (po_some (pv 4)) po_none))
        (pa_cons (pe_slice sl_tup1 (pv 1) (po_some pe_int) po_none)
        (pa_cons (pe_slice sl_tup1 (pv 1) po_none (po_some (pe_un un_neg pe_int)))
        (pa_cons (pe_revT (pv 1))
        (pa_cons (pe_callTy call_list_of (by rfl) B.list (by decide +kernel) (pa_cons (pv 1) pa_nil)) pa_nil))))))))
 (pss_cons (ps_set (i := 6) scNearRow.nd rfl (.inl rfl) (pe_callTy call_tuple_of (by rfl) B.tuple (by decide +kernel) (pa_cons (pe_callB cr_sortedTu (by rfl) B.sorted (by decide +kernel) (pa_cons
        (pe_op op_cat1 (pe_op op_cat1 (pe_slice sl_tup1 (pv 1) po_none (po_some (pv 4))) (pe_tup (pa_cons (pe_call GT hr1 (by rfl) gT FT.kp bT .nil pass0 (pa_cons (pv 0) (pa_cons (pv 2) pa_nil))) pa_nil))) (pe_slice sl_tup1 (pv 1) (po_some (pv 4)) po_none)) pa_nil)) pa_nil)))
 (pss_one (ps_ret (pe_call GP hr (by rfl) gP FP.kp bP .nil pass0 (pa_cons (pv 0) (pa_cons (pe_op op_cat (pv 5) (pe_lst (pa_cons (pe_op op_cat1 (pv 1) (pe_slice sl_tup1 (pv 1) po_none (po_some pe_int))) (pa_cons (pv 6) (pa_cons pe_non (pa_cons (pe_tup pa_nil) pa_nil)))))) pa_nil))))))))), ?_⟩
    have hfP : ¬ H f = none := fun e => by
      obtain ⟨a, b, z⟩ := hF
      rw [e] at z
      cases z
    have sw : SmI w := ⟨by omega, wd⟩
    have one_ : 1 ≤ sizeLine := by decide
    -- one
    refine ⟨_, rfl, 1, rfl, _, rfl, Nat.zero_le _, fun e ne dd nd => ⟨_, rfl, _, _, rfl, rfl, (by show 11 ≤ sizeLine; decide), fun l nl => ?_⟩⟩
    have s1 : Same H (upd H e (.lst [])) := sameU ne
    have s2 : Same (upd H e (.lst [])) (upd (upd H e (.lst [])) dd (.dK [])) := sameU nd
    have sx : Same H (upd (upd H e (.lst [])) dd (.dK [])) := s1.trans s2
    have hed : upd (upd H e (.lst [])) dd (.dK []) e = some (.lst []) := s2 _ _ upd_same
    have hdd : upd (upd H e (.lst [])) dd (.dK []) dd = some (.dK []) := upd_same
    generalize upd (upd H e (.lst [])) dd (.dK []) = H0 at *
    have hF0 : FeedAt H0 f := let ⟨a, b, z⟩ := hF; ⟨a, b, sx _ _ z⟩
    have hall : ∀ u ∈ [V.non, .bl true, .bl false, .int (-1), .int n, .str "0", .ref e, .ref dd, .int 0, .int 1, .int (n - 1)], Nice K (fun p => H p = none) 1 6 H0 u := by
      intro u hu
      simp only [List.mem_cons, List.not_mem_nil, or_false] at hu
      rcases hu with rfl | rfl | rfl | rfl | rfl | rfl | rfl | rfl | rfl | rfl | rfl
      · exact ⟨_, .non, sm_non.mono (by decide) (by decide)⟩
      · exact ⟨_, .bl _, (sm_bl _).mono (by decide) (by decide)⟩
      · exact ⟨_, .bl _, (sm_bl _).mono (by decide) (by decide)⟩
      · exact ⟨_, .int _, sm_neg.mono (by decide) (by decide)⟩
      · exact ⟨_, .int _, (sm_dig (dig_of (by omega) (by omega))).mono (by decide) (by decide)⟩
      · exact ⟨_, .str _, ⟨by decide +kernel, by decide +kernel, by decide +kernel⟩⟩
      · exact ⟨_, .lst ne hed .nil, sm_nil.mono (by decide) (by decide)⟩
      · exact ⟨_, .dic hdd, sm_dic.mono (by decide) (by decide)⟩
      · exact ⟨_, .int _, (sm_dig (dig_of (by omega) (by omega))).mono (by decide) (by decide)⟩
      · exact ⟨_, .int _, (sm_dig (dig_of (by omega) (by omega))).mono (by decide) (by decide)⟩
      · exact ⟨_, .int _, (sm_dig (dig_of (by omega) (by omega))).mono (by decide) (by decide)⟩
    have sl : Same H0 (upd H0 l (.lst [V.non, .bl true, .bl false, .int (-1), .int n, .str "0", .ref e, .ref dd, .int 0, .int 1, .int (n - 1)])) := sameU nl
    have hFl : FeedAt (upd H0 l (.lst [V.non, .bl true, .bl false, .int (-1), .int n, .str "0", .ref e, .ref dd, .int 0, .int 1, .int (n - 1)])) f := let ⟨a, b, z⟩ := hF0; ⟨a, b, sl _ _ z⟩
    refine ⟨f, l, _, rfl, hFl, .inl (.inl upd_same), hF0.ne nl, (by show 0 < 11; decide), (by show 11 < 1000; decide), fun H1 one e1 hm => ?_⟩
    have ho1 : Nice K (fun p => H p = none) 1 6 H1 one := ((hall one hm).over (over_same sl)).over (over_ext e1 hFl hfP)
    have e01 : Ext1 f H H1 := (Ext1.same hF (sx.trans sl)).trans e1
    -- at
    have hT1 := e01.sqT hF hT
    refine ⟨_, rfl, _, rfl, t, _, rfl, .inr hT1, _, _, rfl, rfl, f, _, rfl, e1.feed, by rw [List.length_map]; omega, by rw [List.length_map]; omega, fun H2 at_ e2 a0 a1 => ?_⟩
    rw [List.length_map] at a1
    have ho2 := ho1.over (over_ext e2 e1.feed hfP)
    have e02 : Ext1 f H H2 := e01.trans e2
    have hT2 := e02.sqT hF hT
    obtain ⟨j, rfl⟩ : ∃ j : Nat, at_ = (j : Int) := ⟨at_.toNat, by omega⟩
    -- some
    refine ⟨_, rfl, _, rfl, _, rfl, t, _, rfl, hT2, fun q1 Ha sa hq1 => ⟨_, rfl, one_, fun t1 nt1 => ?_⟩⟩
    obtain ⟨c1, ec1, lc1, mc1⟩ := cut_ints w none (some (j : Int))
    rw [ec1] at hq1
    have sc1 := sw.sub lc1 mc1
    have sb : Same H2 (upd Ha t1 (.tup [one])) := sa.trans (sameU nt1)
    have ht1 : upd Ha t1 (.tup [one]) t1 = some (.tup [one]) := upd_same
    have hq1' := sameT (sameU (o := .tup [one]) nt1) hq1
    generalize upd Ha t1 (.tup [one]) = Hb at *
    refine ⟨q1, t1, _, _, rfl, rfl, hq1', .inl (.inl ht1), szL (by rw [List.length_map]; show c1.length + 1 ≤ 1000000; omega), fun q2 Hc sc hq2 => ?_⟩
    refine ⟨_, rfl, _, rfl, _, _, rfl, rfl, _, rfl, t, _, rfl, sameT (sb.trans sc) hT2, fun q3 Hd sd hq3 => ?_⟩
    obtain ⟨c2, ec2, lc2, mc2⟩ := cut_ints w (some ((j : Int) + 1)) none
    rw [ec2] at hq3
    refine ⟨q2, q3, _, _, rfl, rfl, sameT sd hq2, hq3, szL (by rw [List.length_append, List.length_map, List.length_map]; show c1.length + 1 + c2.length ≤ 1000000; omega), fun p1 He se hp1 => ?_⟩
    have s2e : Same H2 He := sb.trans (sc.trans (sd.trans se))
    have n1_ : Nice K (fun p => H p = none) 2 400 He (.ref p1) := nice_mid hp1 (ho2.over (over_same s2e)) sc1 (sw.sub lc2 mc2)
    clear hq1' ht1 hq1 hq2 hq3 hp1 sa sb sc sd se
    -- the second
    refine ⟨_, rfl, _, rfl, _, rfl, t, _, rfl, sameT s2e hT2, fun q1 Ha sa hq1 => ⟨_, rfl, one_, fun t1 nt1 => ?_⟩⟩
    rw [ec1] at hq1
    have sb : Same He (upd Ha t1 (.tup [one])) := sa.trans (sameU nt1)
    have ht1 : upd Ha t1 (.tup [one]) t1 = some (.tup [one]) := upd_same
    have hq1' := sameT (sameU (o := .tup [one]) nt1) hq1
    generalize upd Ha t1 (.tup [one]) = Hb at *
    refine ⟨q1, t1, _, _, rfl, rfl, hq1', .inl (.inl ht1), szL (by rw [List.length_map]; show c1.length + 1 ≤ 1000000; omega), fun q2 Hc sc hq2 => ?_⟩
    refine ⟨_, rfl, _, rfl, _, rfl, t, _, rfl, sameT (s2e.trans (sb.trans sc)) hT2, fun q3 Hd sd hq3 => ?_⟩
    obtain ⟨c3, ec3, lc3, mc3⟩ := cut_ints w (some (j : Int)) none
    rw [ec3] at hq3
    refine ⟨q2, q3, _, _, rfl, rfl, sameT sd hq2, hq3, szL (by rw [List.length_append, List.length_map, List.length_map]; show c1.length + 1 + c3.length ≤ 1000000; omega), fun p2 Hf se hp2 => ?_⟩
    have sef : Same He Hf := sb.trans (sc.trans (sd.trans se))
    have s2f := s2e.trans sef
    have n2_ : Nice K (fun p => H p = none) 2 400 Hf (.ref p2) := nice_mid hp2 (ho2.over (over_same s2f)) sc1 (sw.sub lc3 mc3)
    have n1_ := n1_.over (over_same sef)
    clear hq1' ht1 hq1 hq2 hq3 hp2 sa sb sc sd se sef
    -- row[1:], row[:-1]
    refine ⟨_, rfl, 1, rfl, t, _, rfl, sameT s2f hT2, fun p3 Hg sg hp3 => ?_⟩
    obtain ⟨c4, ec4, lc4, mc4⟩ := cut_ints w (some (1 : Int)) none
    rw [ec4] at hp3
    have n3_ : Nice K (fun p => H p = none) 2 400 Hg (.ref p3) := nice_row ⟨_, rfl, hp3⟩ (sw.sub lc4 mc4)
    have s2g := s2f.trans sg
    refine ⟨_, rfl, 1, rfl, -1, rfl, t, _, rfl, sameT s2g hT2, fun p4 Hh sh hp4 => ?_⟩
    obtain ⟨c5, ec5, lc5, mc5⟩ := cut_ints w none (some (-1 : Int))
    rw [ec5] at hp4
    have n4_ : Nice K (fun p => H p = none) 2 400 Hh (.ref p4) := nice_row ⟨_, rfl, hp4⟩ (sw.sub lc5 mc5)
    have s2h := s2g.trans sh
    -- row[::-1], list(row)
    refine ⟨_, rfl, t, _, rfl, sameT s2h hT2, fun p5 np5 => ?_⟩
    have si : Same Hh (upd Hh p5 (.tup (w.map V.int).reverse)) := sameU np5
    have n5_ : Nice K (fun p => H p = none) 2 400 (upd Hh p5 (.tup (w.map V.int).reverse)) (.ref p5) := nice_row (w := w.reverse) ⟨_, rfl, .inl (.inl (by rw [upd_same, List.map_reverse]))⟩ (sw.sub (by rw [List.length_reverse]; exact Nat.le_refl _) fun x hx => List.mem_reverse.mp hx)
    have s2i := s2h.trans si
    generalize upd Hh p5 (.tup (w.map V.int).reverse) = Hi at *
    refine ⟨_, rfl, t, _, rfl, .inr (sameT s2i hT2), fun p6 np6 => ?_⟩
    have sj : Same Hi (upd Hi p6 (.lst (w.map V.int))) := sameU np6
    have fr : ∀ {Hx : Hp} {p : Addr}, Same H2 Hx → Hx p = none → H p = none := fun s h => e02.free (s.free h)
    have n6_ : Nice K (fun p => H p = none) 2 400 (upd Hi p6 (.lst (w.map V.int))) (.ref p6) := (nice_lst (n := 0) (b := 1) (fr s2i np6) upd_same (fun u hu => by
      obtain ⟨x, hx, rfl⟩ := List.mem_map.mp hu
      exact ⟨_, .int x, sm_dig (wd x hx)⟩)).mono (by decide) (by rw [List.length_map]; omega)
    have s2j := s2i.trans sj
    have n1_ := n1_.over (over_same (sg.trans (sh.trans (si.trans sj))))
    have n2_ := n2_.over (over_same (sg.trans (sh.trans (si.trans sj))))
    have n3_ := n3_.over (over_same (sh.trans (si.trans sj)))
    have n4_ := n4_.over (over_same (si.trans sj))
    have n5_ := n5_.over (over_same sj)
    clear hp3 hp4 sg sh si sj
    generalize upd Hi p6 (.lst (w.map V.int)) = Hj at *
    refine ⟨(by show 6 ≤ sizeLine; decide), fun S nS => ?_⟩
    have sk : Same Hj (upd Hj S (.lst [.ref p1, .ref p2, .ref p3, .ref p4, .ref p5, .ref p6])) := sameU nS
    have hSk : upd Hj S (.lst [.ref p1, .ref p2, .ref p3, .ref p4, .ref p5, .ref p6]) S = some (.lst [.ref p1, .ref p2, .ref p3, .ref p4, .ref p5, .ref p6]) := upd_same
    have hS6 : ∀ u ∈ [V.ref p1, .ref p2, .ref p3, .ref p4, .ref p5, .ref p6], Nice K (fun p => H p = none) 2 400 (upd Hj S (.lst [.ref p1, .ref p2, .ref p3, .ref p4, .ref p5, .ref p6])) u := by
      intro u hu
      simp only [List.mem_cons, List.not_mem_nil, or_false] at hu
      rcases hu with rfl | rfl | rfl | rfl | rfl | rfl
      · exact n1_.over (over_same sk)
      · exact n2_.over (over_same sk)
      · exact n3_.over (over_same sk)
      · exact n4_.over (over_same sk)
      · exact n5_.over (over_same sk)
      · exact n6_.over (over_same sk)
    have s2k := s2j.trans sk
    have fS : S ≠ f := (e02.trans (Ext1.same e02.feed s2j)).feed.ne nS
    have nSH : H S = none := fr s2j nS
    clear n1_ n2_ n3_ n4_ n5_ n6_
    generalize upd Hj S (.lst [.ref p1, .ref p2, .ref p3, .ref p4, .ref p5, .ref p6]) = Hk at *
    have hS6l : ([V.ref p1, .ref p2, .ref p3, .ref p4, .ref p5, .ref p6] : List V).length = 6 := rfl
    generalize ([V.ref p1, .ref p2, .ref p3, .ref p4, .ref p5, .ref p6] : List V) = ss at *
    have e0k : Ext1 f H Hk := e02.trans (Ext1.same e02.feed s2k)
    have hTk := e0k.sqT hF hT
    clear s2k s2j sk
    -- other
    refine ⟨_, rfl, _, rfl, _, rfl, t, _, rfl, hTk, fun q1 Ha sa hq1 => ?_⟩
    rw [ec1] at hq1
    have hFa : FeedAt Ha f := (Ext1.same e0k.feed sa).feed
    refine ⟨_, rfl, _, rfl, f, n, rfl, hFa, by omega, by omega, fun Hb k eb k0 k1 => ⟨one_, fun t1 nt1 => ?_⟩⟩
    have ekb : Ext1 f Hk Hb := (Ext1.same e0k.feed sa).trans eb
    have sb : Same Hb (upd Hb t1 (.tup [.int k])) := sameU nt1
    have ht1 : upd Hb t1 (.tup [V.int k]) t1 = some (.tup [.int k]) := upd_same
    have hq1' := sameT sb (eb.sqT hFa hq1)
    have ekc : Ext1 f Hk (upd Hb t1 (.tup [.int k])) := ekb.trans (Ext1.same ekb.feed sb)
    generalize upd Hb t1 (.tup [V.int k]) = Hc at *
    refine ⟨q1, t1, _, _, rfl, rfl, hq1', .inl (.inl ht1), szL (by rw [List.length_map]; show c1.length + 1 ≤ 1000000; omega), fun q2 Hd sd hq2 => ?_⟩
    have ekd : Ext1 f Hk Hd := ekc.trans (Ext1.same ekc.feed sd)
    refine ⟨_, rfl, _, rfl, _, rfl, t, _, rfl, ekd.sqT e0k.feed hTk, fun q3 Hg sg hq3 => ?_⟩
    rw [ec3] at hq3
    refine ⟨q2, q3, _, _, rfl, rfl, sameT sg hq2, hq3, szL (by rw [List.length_append, List.length_map, List.length_map]; show c1.length + 1 + c3.length ≤ 1000000; omega), fun q4 Hh sh hq4 => ?_⟩
    rw [show c1.map V.int ++ [V.int k] ++ c3.map V.int = (c1 ++ [k] ++ c3).map V.int from ints_mid c1 c3 k] at hq4
    have ekh : Ext1 f Hk Hh := ekd.trans (Ext1.same ekd.feed (sg.trans sh))
    have l13 : (c1 ++ [k] ++ c3).length ≤ 20 := by rw [List.length_append, List.length_append]; show c1.length + 1 + c3.length ≤ 20; omega
    have d13 : ∀ x ∈ c1 ++ [k] ++ c3, Dig x := fun x hx => by
      rcases List.mem_append.mp hx with h | h
      · rcases List.mem_append.mp h with h | h
        · exact wd x (mc1 x h)
        · rw [List.mem_singleton.mp h]; exact dig_of k0 (by omega)
      · exact wd x (mc3 x h)
    refine ⟨q4, _, rfl, hq4, by omega, fun ns' so pm ps np => ⟨so, _, rfl, .inl ⟨.inl (.inl upd_same), fun ot not_ => ?_⟩⟩⟩
    have ekm : Ext1 f Hk (upd (upd Hh so (.lst (ns'.map V.int))) ot (.tup (ns'.map V.int))) := (ekh.new np).new not_
    have hot : upd (upd Hh so (.lst (ns'.map V.int))) ot (.tup (ns'.map V.int)) ot = some (.tup (ns'.map V.int)) := upd_same
    have no_ : Nice K (fun p => H p = none) 2 400 (upd (upd Hh so (.lst (ns'.map V.int))) ot (.tup (ns'.map V.int))) (.ref ot) := nice_row ⟨_, rfl, .inl (.inl hot)⟩ ⟨by rw [pm.length_eq]; exact l13, fun x hx => d13 x (pm.mem_iff.mp hx)⟩
    clear hq1 hq1' hq2 hq3 hq4 ht1 sa sb sd sg sh eb ekb ekc ekd ekh hot
    generalize upd (upd Hh so (.lst (ns'.map V.int))) ot (.tup (ns'.map V.int)) = Hm at *
    have e0m := e0k.trans ekm
    have hS6m : ∀ u ∈ ss, Nice K (fun p => H p = none) 2 400 Hm u := fun u hu => (hS6 u hu).over (over_ext ekm e0k.feed hfP)
    have hSm := ekm.1 _ _ fS hSk
    have hTm := e0m.sqT hF hT
    clear hS6 hSk hTk
    -- the last
    refine ⟨_, rfl, _, rfl, _, rfl, _, rfl, 1, rfl, t, _, rfl, hTm, fun q1 Ha sa hq1 => ?_⟩
    obtain ⟨c6, ec6, lc6, mc6⟩ := cut_ints w none (some (1 : Int))
    rw [ec6] at hq1
    refine ⟨t, q1, _, _, rfl, rfl, sameT sa hTm, hq1, szL (by rw [List.length_map, List.length_map]; omega), fun p9 Hb sb hp9 => ?_⟩
    rw [← List.map_append] at hp9
    have n9_ : Nice K (fun p => H p = none) 2 400 Hb (.ref p9) := nice_row ⟨_, rfl, hp9⟩ ⟨by rw [List.length_append]; omega, fun x hx => (List.mem_append.mp hx).elim (wd x) fun h => wd x (mc6 x h)⟩
    refine ⟨_, rfl, Nat.zero_le _, fun t0 nt0 => ⟨(by show 4 ≤ sizeLine; decide), fun M nM => ?_⟩⟩
    have sc : Same Hb (upd Hb t0 (.tup [])) := sameU nt0
    have n0_ : Nice K (fun p => H p = none) 2 400 (upd Hb t0 (.tup [])) (.ref t0) := ⟨_, .tup (.inl (.inl upd_same)) .nil, sm_tnil.mono (by decide) (by decide)⟩
    have smc : Same Hm (upd Hb t0 (.tup [])) := sa.trans (sb.trans sc)
    have n9_ := n9_.over (over_same sc)
    generalize upd Hb t0 (.tup []) = Hc at *
    have sd : Same Hc (upd Hc M (.lst [.ref p9, .ref ot, .non, .ref t0])) := sameU nM
    have hM : upd Hc M (.lst [.ref p9, .ref ot, .non, .ref t0]) M = some (.lst [.ref p9, .ref ot, .non, .ref t0]) := upd_same
    have hM4 : ∀ u ∈ [V.ref p9, .ref ot, .non, .ref t0], Nice K (fun p => H p = none) 2 400 (upd Hc M (.lst [.ref p9, .ref ot, .non, .ref t0])) u := by
      intro u hu
      simp only [List.mem_cons, List.not_mem_nil, or_false] at hu
      rcases hu with rfl | rfl | rfl | rfl
      · exact n9_.over (over_same sd)
      · exact no_.over (over_same (smc.trans sd))
      · exact ⟨_, .non, sm_non.mono (by decide) (by decide)⟩
      · exact n0_.over (over_same sd)
    generalize upd Hc M (.lst [.ref p9, .ref ot, .non, .ref t0]) = Hd at *
    have smd := smc.trans sd
    refine ⟨S, M, ss, _, rfl, rfl, smd _ _ hSm, hM, szL (by rw [hS6l]; show 6 + 4 ≤ 1000000; decide), fun Z nZ => ?_⟩
    have hall2 : ∀ u ∈ ss ++ [V.ref p9, .ref ot, .non, .ref t0], Nice K (fun p => H p = none) 2 400 Hd u := fun u hu => (List.mem_append.mp hu).elim (fun h => (hS6m u h).over (over_same smd)) fun h => hM4 u h
    have hl2 : (ss ++ [V.ref p9, .ref ot, .non, .ref t0]).length = 10 := by rw [List.length_append, hS6l]; rfl
    have e0d : Ext1 f H Hd := e0m.trans (Ext1.same e0m.feed smd)
    generalize ss ++ [V.ref p9, .ref ot, .non, .ref t0] = zs at *
    have sz : Same Hd (upd Hd Z (.lst zs)) := sameU nZ
    have e0z : Ext1 f H (upd Hd Z (.lst zs)) := e0d.trans (Ext1.same e0d.feed sz)
    refine ⟨f, Z, zs, rfl, e0z.feed, .inl (.inl upd_same), e0d.feed.ne nZ, by omega, by omega, fun He u ee hm => ?_⟩
    exact q He u (e0z.trans ee) (((hall2 u hm).over (over_same sz)).over (over_ext ee e0z.feed hfP))
end
end Ew
namespace Ew
open PySem PySem.Spec PyProof.Rows L2
abbrev sNear : Stmt := (top 38)
def spNear (K : PySem.W.Frag) : Sp := fun vs H Q _ => ∃ (f a : Addr) (n : Int) (xs : List V) (ws : List (List Int)), vs = [.ref f, .ref a, .int n] ∧ FeedAt H f ∧ a ≠ f ∧ H a = some (.lst xs) ∧ Paired (RowT K H) xs ws ∧ ws.length ≤ 6 ∧ (∀ w ∈ ws, w.length ≤ 6 ∧ ∀ x ∈ w, Dig x) ∧ 1 ≤ n ∧ n ≤ 6 ∧
  ∀ H' u, Ext1 f H H' → Nice K (fun p => p ≠ f) 3 4000 H' u → Q u H'
section
variable {P : Program} {w : World} {K : PySem.W.Frag} {mg : Str → Option Value} {base : Heap} {C : Addr}
theorem nice_rows {P' : Addr → Prop} {H : Hp} : ∀ {xs : List V} {ws : List (List Int)}, Paired (RowT K H) xs ws → (∀ w ∈ ws, w.length ≤ 6 ∧ ∀ x ∈ w, Dig x) → ∀ u ∈ xs, Nice K P' 2 400 H u
  | _, _, .nil, _, u, hu => by simp at hu
  | v :: xs, w :: ws, .cons r t, h, u, hu => by
    rcases List.mem_cons.mp hu with e | e
    · rw [e]
      have := h w (by simp)
      exact nice_row r ⟨by omega, this.2⟩
    · exact nice_rows t (fun w hw => h w (by simp [hw])) u e
theorem scNear : FnScope ["feed", "value", "works", "some", "way", "at"] ["feed", "value", "works"] (defScope sNear) := ⟨rfl, rfl, rfl, by decide +kernel, rfl, by decide +kernel, by decide +kernel⟩
theorem ok_near {f fN : Addr} {fd fdN : FuncData} (F : Fun K "_law_near" "_law_near" sNear f fd) (L : Low K mg) (FN : Fun K "_law_near_row" "_law_near_row" sNearRow fN fdN) (bN : Binds K fdN ["feed", "row", "works"] []) (gN : mg "_law_near_row" = some (.ref fN)) :
    FnOk P w K mg base CX0 4 f fd ["feed", "value", "works"] (spNear K) := by
  have GN : FnOk P w K mg base CX0 3 fN fdN ["feed", "row", "works"] (spNearRow K) := ok_nearRow FN L
  obtain ⟨B, _, ⟨fT, fdT, FT, bT, gT⟩, ⟨fP, fdP, FP, bP, gP⟩, _⟩ := L
  have GT : FnOk P w K mg base CX0 1 fT fdT ["feed", "many"] spTake := ok_take FT B
  have GP : FnOk P w K mg base CX0 2 fP fdP ["feed", "some"] (spPick K) := ok_pick FP FT bT gT B
  refine F.ok scNear (fun vs H Q E h => ?_) (fun cdv A outer s H vs Q E hr h => ?_)
  · obtain ⟨f, a, n, xs, ws, rfl, _⟩ := h
    rfl
  · obtain ⟨f, a, n, xs, ws, rfl, hF, naf, hA, hP, wl, wd, n1, n6, q⟩ := h
    have hr1 := hr.mono (show 1 ≤ 3 by decide)
    have hr2 := hr.mono (show 2 ≤ 3 by decide)
    refine ⟨_, (pss_cons (ps_par (i := 3) (j := 4) (by rfl) scNear.nd rfl rfl (by decide) rfl rfl (pa_cons (pe_callTy call_list_of (by rfl) B.list (by decide +kernel) (pa_cons (pv 1) pa_nil)) (pa_cons (pe_call GT hr1 (by rfl) gT FT.kp bT .nil pass0 (pa_cons (pv 0) (pa_cons pe_int pa_nil))) pa_nil)) (by rfl))
 (pss_cons (ps_if (PW.pt (pw_or (pt_cmpR op_eq (pv 4) pe_int (nomark _)) (pw_or1 (pt_cmpR (op_eqNil (Nat.lt_of_le_of_lt (Nat.le_add_right _ 64) hr.units)) (pv 3) (pe_lst pa_nil) (nomark _)))))
        (pss_one (ps_ret (pe_call GP hr2 (by rfl) gP FP.kp bP .nil pass0 (pa_cons (pv 0) (pa_cons (pe_lst
          (pa_cons (pe_callTy call_tuple_of (by rfl) B.tuple (by decide +kernel) (pa_cons (pv 1) pa_nil)) (pa_cons pe_non (pa_cons pe_dnewK (pa_cons pe_str (pa_cons (pe_lst (pa_cons pe_non pa_nil)) (pa_cons (pv 1)
          (pa_cons (pe_op op_cat (pv 1) (pe_lst (pa_cons (pe_tup pa_nil) pa_nil))) (pa_cons (pe_slice sl_list (pv 1) (po_some pe_int) po_none) (pa_cons (pe_lst pa_nil) pa_nil)))))))))) pa_nil))))) pss_nil)
 (pss_cons (ps_set (i := 5) scNear.nd rfl (.inl rfl) (pe_call GT hr1 (by rfl) gT FT.kp bT .nil pass0 (pa_cons (pv 0) (pa_cons (pe_callB call_len_seq (by rfl) B.len PySem.boot_len (pa_cons (pv 3) pa_nil)) pa_nil))))
 (C8.pss_cut (ps_if (pt_cmpR op_eq (pv 4) pe_int (nomark _)) (pss_one (ps_set (i := 3) scNear.nd rfl (.inl rfl) (pe_revL (pv 3))))
        (pss_one (ps_if (pt_cmpR op_eq (pv 4) pe_int (nomark _)) (pss_one (ps_asg (pe_lst pa_nil) (pg_slc (pv 3) (po_some (pv 5)) (po_some (pe_op op_add (pv 5) pe_int)))))
          (pss_one (ps_asg (pe_call GN hr (by rfl) gN FN.kp bN .nil pass0 (pa_cons (pv 0) (pa_cons (pe_ix ix_list (pv 3) (pv 5) (fun _ _ => rfl)) (pa_cons (pv 2) pa_nil)))) (pg_sub (pv 3) (pv 5) set_list))))))
 (pss_one (ps_ret (pv 3))))))), ?_⟩
    have hxl : xs.length = ws.length := Paired.len hP
    have hfP : ∀ {Hx : Hp}, FeedAt Hx f → ∀ p, Hx p = none → p ≠ f := fun h p np => h.ne np
    -- some, way
    refine ⟨_, rfl, a, xs, rfl, .inl (.inl (.inl hA)), fun S nS => ⟨_, rfl, f, 7, rfl, ?_, by decide, by decide, fun H1 way e1 y0 y1 => ⟨_, _, rfl, ?_⟩⟩⟩
    · obtain ⟨d, z, e⟩ := hF
      exact ⟨d, z, sameU nS _ _ e⟩
    have fS : S ≠ f := hF.ne nS
    have sS : Same H (upd H S (.lst xs)) := sameU nS
    have hFS : FeedAt (upd H S (.lst xs)) f := let ⟨d, z, e⟩ := hF; ⟨d, z, sS _ _ e⟩
    have e01 : Ext1 f H H1 := (Ext1.same hF sS).trans e1
    have hS1 : H1 S = some (.lst xs) := e1.1 _ _ fS upd_same
    have hA1 := e01.1 _ _ naf hA
    have hP1 := L2.Paired.mapP hP fun _ _ z => RowT.ext e01 hF z
    have hF1 := e01.feed
    clear e1 sS hFS
    -- the first if
    have hx8 : xs.length ≤ 6 := by omega
    have one_ : 1 ≤ sizeLine := by decide
    have hcutm : ∀ u ∈ cutV xs (some 1) none, u ∈ xs := fun u hu => by
      unfold cutV at hu
      exact List.mem_of_mem_drop (List.mem_of_mem_take hu)
    have first : ∀ H2, Same H1 H2 → ∀ (Q2 : VK), (∀ H' u, Ext1 f H H' → Nice K (fun p => p ≠ f) 3 4000 H' u → Q2 u H') →
        tCall (spPick K) [] E0 (tCons (tVar 0) (tCons (tLst (tCons (tCB (fun xs H Q => ∃ p ys, xs = [V.ref p] ∧ ((SqL K H p ys ∧ ∀ l : Addr, H l = none → Q (V.ref l) (upd H l (.tup ys))) ∨ SqT K H p ys ∧ Q (V.ref p) H)) (tCons (tVar 1) tNil)) (tCons (tC .non) (tCons tDNewK (tCons (tC (.str "")) (tCons (tLst (tCons (tC .non) tNil)) (tCons (tVar 1)
          (tCons (tOp rCat (tVar 1) (tLst (tCons (tTup tNil) tNil))) (tCons (tSl (rSlL K) (tVar 1) (tPart (tC (.int 1))) tNoPart) (tCons (tLst tNil) tNil)))))))))) tNil)) [some (.ref f), some (.ref a), some (.int n), some (.ref S), some (.int way), none] H2 Q2 := by
      intro H2 s2 Q2 k
      have hF2 : FeedAt H2 f := (Ext1.same hF1 s2).feed
      have hA2 := s2 _ _ hA1
      refine ⟨_, rfl, _, rfl, a, xs, rfl, .inl ⟨.inl (.inl hA2), fun l0 nl0 dd nd => ⟨one_, fun l1 nl1 => ?_⟩⟩⟩
      have g0 : Same H2 (upd H2 l0 (.tup xs)) := sameU nl0
      have g1 : Same (upd H2 l0 (.tup xs)) (upd (upd H2 l0 (.tup xs)) dd (.dK [])) := sameU nd
      have g2 : Same (upd (upd H2 l0 (.tup xs)) dd (.dK [])) (upd (upd (upd H2 l0 (.tup xs)) dd (.dK [])) l1 (.lst [.non])) := sameU nl1
      have m0 := (g1.trans g2) _ _ (show upd H2 l0 (.tup xs) l0 = some (.tup xs) from upd_same)
      have m1 := g2 _ _ (show upd (upd H2 l0 (.tup xs)) dd (.dK []) dd = some (.dK []) from upd_same)
      have m2 : upd (upd (upd H2 l0 (.tup xs)) dd (.dK [])) l1 (.lst [V.non]) l1 = some (.lst [.non]) := upd_same
      have f1 : l1 ≠ f := (Ext1.same hF2 (g0.trans g1)).feed.ne nl1
      have h2 := g0.trans (g1.trans g2)
      generalize upd (upd (upd H2 l0 (.tup xs)) dd (.dK [])) l1 (.lst [V.non]) = G2 at *
      refine ⟨_, rfl, _, rfl, Nat.zero_le _, fun t0 nt0 => ⟨one_, fun l2 nl2 => ?_⟩⟩
      have g3 : Same G2 (upd G2 t0 (.tup [])) := sameU nt0
      have g4 : Same (upd G2 t0 (.tup [])) (upd (upd G2 t0 (.tup [])) l2 (.lst [.ref t0])) := sameU nl2
      have m3 := g4 _ _ (show upd G2 t0 (.tup []) t0 = some (.tup []) from upd_same)
      have m4 : upd (upd G2 t0 (.tup [])) l2 (.lst [V.ref t0]) l2 = some (.lst [.ref t0]) := upd_same
      have h4 := h2.trans (g3.trans g4)
      have m0 := (g3.trans g4) _ _ m0
      have m1 := (g3.trans g4) _ _ m1
      have m2 := (g3.trans g4) _ _ m2
      generalize upd (upd G2 t0 (.tup [])) l2 (.lst [V.ref t0]) = G4 at *
      refine ⟨a, l2, xs, _, rfl, rfl, h4 _ _ hA2, m4, szL (by show xs.length + 1 ≤ 1000000; omega), fun l3 nl3 => ?_⟩
      have g5 : Same G4 (upd G4 l3 (.lst (xs ++ [.ref t0]))) := sameU nl3
      have f3 : l3 ≠ f := (Ext1.same hF2 h4).feed.ne nl3
      have m5 : upd G4 l3 (.lst (xs ++ [.ref t0])) l3 = some (.lst (xs ++ [.ref t0])) := upd_same
      have h5 := h4.trans g5
      have m0 := g5 _ _ m0
      have m1 := g5 _ _ m1
      have m2 := g5 _ _ m2
      have m3 := g5 _ _ m3
      generalize upd G4 l3 (.lst (xs ++ [V.ref t0])) = G5 at *
      refine ⟨_, rfl, 1, rfl, a, xs, rfl, .inl (.inl (h5 _ _ hA2)), fun l4 nl4 => ?_⟩
      have g6 : Same G5 (upd G5 l4 (.lst (cutV xs (some 1) none))) := sameU nl4
      have f4 : l4 ≠ f := (Ext1.same hF2 h5).feed.ne nl4
      have m6 : upd G5 l4 (.lst (cutV xs (some 1) none)) l4 = some (.lst (cutV xs (some 1) none)) := upd_same
      have h6 := h5.trans g6
      have m0 := g6 _ _ m0
      have m1 := g6 _ _ m1
      have m2 := g6 _ _ m2
      have m3 := g6 _ _ m3
      have m5 := g6 _ _ m5
      generalize upd G5 l4 (.lst (cutV xs (some 1) none)) = G6 at *
      refine ⟨Nat.zero_le _, fun l5 nl5 => ⟨(by show 9 ≤ sizeLine; decide), fun Z nZ => ?_⟩⟩
      have g7 : Same G6 (upd G6 l5 (.lst [])) := sameU nl5
      have f5 : l5 ≠ f := (Ext1.same hF2 h6).feed.ne nl5
      have m7 : upd G6 l5 (.lst []) l5 = some (.lst []) := upd_same
      have h7 := h6.trans g7
      have m0 := g7 _ _ m0
      have m1 := g7 _ _ m1
      have m2 := g7 _ _ m2
      have m3 := g7 _ _ m3
      have m5 := g7 _ _ m5
      have m6 := g7 _ _ m6
      have hF7 : FeedAt (upd G6 l5 (.lst [])) f := (Ext1.same hF2 h7).feed
      generalize upd G6 l5 (.lst []) = G7 at *
      have rn : ∀ u ∈ xs, Nice K (fun p => p ≠ f) 2 400 G7 u := nice_rows (L2.Paired.mapP hP1 fun _ _ z => z.same (s2.trans h7)) wd
      have nt : Nice K (fun p => p ≠ f) 2 400 G7 (.ref t0) := ⟨_, .tup (.inl (.inl m3)) .nil, sm_tnil.mono (by decide) (by decide)⟩
      have hall : ∀ u ∈ [V.ref l0, .non, .ref dd, .str "", .ref l1, .ref a, .ref l3, .ref l4, .ref l5], Nice K (fun p => p ≠ f) 3 4000 G7 u := by
        intro u hu
        simp only [List.mem_cons, List.not_mem_nil, or_false] at hu
        rcases hu with rfl | rfl | rfl | rfl | rfl | rfl | rfl | rfl | rfl
        · exact (nice_tup (.inl (.inl m0)) rn).mono (by decide) (by omega)
        · exact ⟨_, .non, sm_non.mono (by decide) (by decide)⟩
        · exact ⟨_, .dic m1, sm_dic.mono (by decide) (by decide)⟩
        · exact ⟨_, .str _, ⟨by decide +kernel, by decide +kernel, by decide +kernel⟩⟩
        · exact (nice_lst (P := fun p => p ≠ f) (n := 0) (b := 4) f1 m2 (fun u hu => by rw [List.mem_singleton.mp hu]; exact ⟨_, .non, sm_non⟩)).mono (by decide) (by decide)
        · exact (nice_lst (P := fun p => p ≠ f) naf (h7 _ _ hA2) rn).mono (by decide) (by omega)
        · exact (nice_lst (P := fun p => p ≠ f) f3 m5 (fun u hu => (List.mem_append.mp hu).elim (rn u) fun h => by rw [List.mem_singleton.mp h]; exact nt)).mono (by decide) (by rw [List.length_append]; show 3 + (xs.length + 1) * (400 + 2) ≤ 4000; omega)
        · exact (nice_lst (P := fun p => p ≠ f) f4 m6 (fun u hu => rn u (hcutm u hu))).mono (by decide) (by have := cut_le xs (some 1) none; omega)
        · exact ⟨_, .lst f5 m7 .nil, sm_nil.mono (by decide) (by decide)⟩
      have g8 : Same G7 (upd G7 Z (.lst [V.ref l0, .non, .ref dd, .str "", .ref l1, .ref a, .ref l3, .ref l4, .ref l5])) := sameU nZ
      have e8 : Ext1 f H (upd G7 Z (.lst [V.ref l0, .non, .ref dd, .str "", .ref l1, .ref a, .ref l3, .ref l4, .ref l5])) := e01.trans (Ext1.same hF1 (s2.trans (h7.trans g8)))
      refine ⟨f, Z, _, rfl, e8.feed, .inl (.inl upd_same), hF7.ne nZ, (by show 0 < 9; decide), (by show 9 < 1000; decide), fun H' u e' hm => ?_⟩
      exact k H' u (e8.trans e') (((hall u hm).over (over_same g8)).over (over_ext e' e8.feed fun h => h rfl))
    refine ⟨_, rfl, rfl, _, rfl, ite2 (fun c => ite2 (fun _ => first H1 (Same.refl H1) Q q) (fun c2 => absurd rfl c2)) (fun c => ?_)⟩
    refine ⟨_, rfl, Nat.zero_le _, fun e0 ne0 => ?_⟩
    have s0 : Same H1 (upd H1 e0 (.lst [])) := sameU ne0
    refine ⟨S, e0, xs, rfl, rfl, .inl (.inl (s0 _ _ hS1)), .inl (.inl upd_same), _, rfl, ?_⟩
    rw [if_neg Bool.false_ne_true]
    cases hx : xs.isEmpty with
    | true => exact iteT (first _ s0 Q q)
    | false =>
      refine iteF ?_
      clear first
      have x1 : 0 < xs.length := by
        cases xs with
        | nil => cases hx
        | cons _ _ => simp
      have e02 : Ext1 f H (upd H1 e0 (.lst [])) := e01.trans (Ext1.same hF1 s0)
      have hS2 := s0 _ _ hS1
      have hP2 := L2.Paired.mapP hP1 fun _ _ z => RowT.same s0 z
      generalize upd H1 e0 (.lst []) = H2 at *
      refine ⟨_, rfl, _, rfl, S, xs, rfl, .inl (.inl (.inl hS2)), f, _, rfl, e02.feed, by omega, by omega, fun H3 at_ e3 a0 a1 => ?_⟩
      obtain ⟨j, rfl⟩ : ∃ j : Nat, at_ = (j : Int) := ⟨at_.toNat, by omega⟩
      have e03 := e02.trans e3
      have hS3 := e3.1 _ _ fS hS2
      have hP3 := L2.Paired.mapP hP2 fun _ _ z => RowT.ext e3 e02.feed z
      have hF3 := e03.feed
      have rn : ∀ u ∈ xs, Nice K (fun p => p ≠ f) 2 400 H3 u := nice_rows hP3 wd
      refine ⟨fun σ H' => ∃ (Sx : Addr), σ = [some (.ref f), some (.ref a), some (.int n), some (.ref Sx), some (.int way), some (.int j)] ∧ Ext1 f H H' ∧ Nice K (fun p => p ≠ f) 3 4000 H' (.ref Sx), ?_, ?_⟩
      · refine ⟨_, rfl, rfl, _, rfl, ite2 (fun _ => ?_) (fun _ => ?_)⟩
        · refine ⟨_, rfl, S, xs, rfl, .inl (.inl hS3), fun p np => ?_⟩
          have s4 : Same H3 (upd H3 p (.lst xs.reverse)) := sameU np
          refine ⟨p, rfl, e03.trans (Ext1.same hF3 s4), (nice_lst (P := fun p => p ≠ f) (hF3.ne np) upd_same (fun u hu => (rn u (List.mem_reverse.mp hu)).over (over_same s4))).mono (by decide) (by rw [List.length_reverse]; omega)⟩
        · refine ⟨_, rfl, rfl, _, rfl, ite2 (fun _ => ?_) (fun _ => ?_)⟩
          · refine ⟨Nat.zero_le _, fun e5 ne5 => ?_⟩
            have s5 : Same H3 (upd H3 e5 (.lst [])) := sameU ne5
            have hS5 := s5 _ _ hS3
            have nS5 : S ≠ e5 := ne_of_none hS3 ne5
            have h5e : upd H3 e5 (.lst []) e5 = some (.lst []) := upd_same
            have e05 : Ext1 f H (upd H3 e5 (.lst [])) := e03.trans (Ext1.same hF3 s5)
            have rn5 : ∀ u ∈ xs, Nice K (fun p => p ≠ f) 2 400 (upd H3 e5 (.lst [])) u := nice_rows (L2.Paired.mapP hP3 fun _ _ z => RowT.same s5 z) wd
            have hP5 := L2.Paired.mapP hP3 fun _ _ z => RowT.same s5 z
            generalize upd H3 e5 (.lst []) = H5 at *
            refine ⟨_, rfl, _, rfl, (j : Int), rfl, _, rfl, _, _, rfl, rfl, (j : Int) + 1, rfl, S, e5, xs, [], (j : Int), (j : Int) + 1, rfl, rfl, rfl, rfl, hS5, h5e, nS5, by omega, by omega, by omega, szL (by show xs.length + 0 ≤ 1000000; omega), ?_⟩
            have hP6 := L2.Paired.mapP hP5 fun _ _ z => RowT.upd (o := .lst (xs.take (j : Int).toNat ++ [] ++ xs.drop ((j : Int) + 1).toNat)) hS5 z
            refine ⟨S, rfl, e05.own nS fS, (nice_lst (P := fun p => p ≠ f) fS upd_same (fun u hu => nice_rows hP6 wd u ?_)).mono (by decide) ?_⟩
            · rw [List.append_nil] at hu
              exact (List.mem_append.mp hu).elim List.mem_of_mem_take List.mem_of_mem_drop
            · rw [List.append_nil, List.length_append, List.length_take, List.length_drop]
              omega
          · have hj : j < xs.length := by omega
            have hxj : xs[j]? = some xs[j] := List.getElem?_eq_getElem hj
            obtain ⟨wr, hwr, rv⟩ := Paired.at1 hP3 hxj
            have hw := wd wr (List.mem_of_getElem? hwr)
            refine ⟨_, rfl, _, rfl, _, rfl, S, xs, (j : Int), _, rfl, rfl, .inl (.inl hS3), atI_nat hxj, _, rfl, f, _, wr, n, rfl, hF3, rv, hw.1, hw.2, n1, n6, fun H5 u e5 hu => ?_⟩
            have hS5 := e5.1 _ _ fS hS3
            have e05 := e03.trans e5
            have hP5 := L2.Paired.mapP hP3 fun _ _ z => RowT.ext e5 hF3 z
            refine ⟨_, rfl, _, rfl, S, xs, (j : Int), j, rfl, rfl, hS5, ?_, ?_⟩
            · unfold ixN
              rw [if_pos (by omega), if_pos (by omega)]
              simp
            have hP6 := L2.Paired.mapP hP5 fun _ _ z => RowT.upd (o := .lst (xs.set j u)) hS5 z
            refine ⟨S, rfl, e05.own nS fS, (nice_lst (P := fun p => p ≠ f) (b := 400) (n := 2) fS upd_same (fun z hz => ?_)).mono (by decide) (by rw [List.length_set]; omega)⟩
            rcases List.mem_or_eq_of_mem_set hz with h | h
            · exact nice_rows hP6 wd z h
            · rw [h]
              refine (hu.over (over_upd hS5 fun h => by rw [hS3] at h; cases h)).imp fun b _ _ hb => hF3.ne hb
      · rintro σ H' ⟨Sx, rfl, e', hn⟩
        exact ⟨_, rfl, q H' _ e' hn⟩
end
end Ew
namespace Ew
open PySem PySem.Spec PyProof.Rows L2
abbrev sMore : Stmt := (top 39)
def Wok (ws : List (List Int)) : Prop := ∀ w ∈ ws, w.length ≤ 6 ∧ ∀ x ∈ w, Dig x
def spMore (K : PySem.W.Frag) : Sp := fun vs H Q _ => ∃ (z : V) (D R W ab : Addr) (ds : List Int) (us : List V) (rs : List (Int × List Int)) (vw : List V) (ws : List (List Int)) (as : List Int), vs = [z, .ref D, .ref R, .ref W, .ref ab] ∧ SqL K H D (ds.map V.int) ∧ SqL K H R us ∧ Paired (RdT K H) us rs ∧ DsOk ds rs ∧
  RowsAt K H W vw ws rs.length ∧ Wok ws ∧ SqT K H ab (as.map V.int) ∧ ∀ H' p xs vs, Same H H' → H p = none → H' p = some (.lst xs) → Paired (RowT K H') xs vs → vs.length = rs.length → Wok vs → Q (.ref p) H'
/-- all but what stands at p is as it was -/
def But (p : Addr) (H H' : Hp) : Prop := ∀ b o, b ≠ p → H b = some o → H' b = some o
theorem kept_len (ds : List Int) (ws : List (List Int)) (as : List Int) : (kept ds ws as).length = ds.length := by
  unfold kept
  rw [List.length_map, List.length_zip, times_len]
  omega
section
variable {P : Program} {w : World} {K : PySem.W.Frag} {mg : Str → Option Value} {base : Heap} {C : Addr}
theorem scMore : FnScope ["feed", "demands", "readers", "rows", "absent", "at", "found", "due", "work", "limit", "may", "times", "row"] ["feed", "demands", "readers", "rows", "absent"] (defScope sMore) := ⟨rfl, rfl, rfl, by decide +kernel, rfl, by decide +kernel, by decide +kernel⟩
theorem ok_more {f : Addr} {fd : FuncData} (F : Fun K "_law_more" "_law_more" sMore f fd) (L : Low K mg) (R : LRws K mg) : FnOk P w K mg base CX0 3 f fd ["feed", "demands", "readers", "rows", "absent"] (spMore K) := by
  obtain ⟨B, _, _, _, _, _, ⟨fT, fdT, FT, bT, gT⟩, _⟩ := L
  obtain ⟨_, _, _, ⟨fK, fdK, FK, bK, gK⟩, _, _, ⟨fP, fdP, FP, bP, gP⟩⟩ := R
  have GT : FnOk P w K mg base CX0 1 fT fdT ["rows", "works"] (spTimes K) := ok_times FT B
  have GK : FnOk P w K mg base CX0 2 fK fdK ["demands", "rows", "absent"] (spKept K) := ok_kept FK B FT bT gT
  have GP : FnOk P w K mg base CX0 1 fP fdP ["readers", "absent"] (spPrs K) := ok_prs FP B
  refine F.ok scMore (fun vs H Q E h => ?_) (fun cdv A outer s H vs Q E hr h => ?_)
  · obtain ⟨z, D, R, W, ab, ds, us, rs, vw, ws, as, rfl, _⟩ := h
    rfl
  · obtain ⟨z, D, R, W, ab, ds, us, rs, vw, ws, as, rfl, hD, hR, hP, ok, hW, hwo, hA, q⟩ := h
    have hr1 := hr.mono (show 1 ≤ 2 by decide)
    refine ⟨_, (pss_cons (ps_setLc (i := 6) (own := [("at", 5), ("row", 12)]) (g := gTup K 2 (gCons (gName 5) (gCons (gName 12) gNil))) (tt := tYes) (te := tIf (tTest (tOp (rIn K false) (tVar 5) (tVar 4))) (tTup tNil) (tVar 12)) rfl scMore.nd rfl rfl rfl (pi_enum (by rfl) B.enumerate (pa_cons (pv 3) pa_nil))
          (blkOk_by (own := [("at", 5), ("row", 12)]) (N := ["feed", "demands", "readers", "rows", "absent", "at", "found", "due", "work", "limit", "may", "times", "row"]) (sc := defScope sMore) (by decide +kernel))
          (fun _ _ _ _ _ => pg_tup (by rfl) (pgs_cons (pg_name (i := 5) scMore.nd rfl (.inl rfl)) (pgs_cons (pg_name (i := 12) scMore.nd rfl (.inl rfl)) pgs_nil))) (fun _ _ _ _ _ => pts_nil)
          (fun _ _ _ _ _ => pe_ifExp (pt_cmpR op_in_seq (pv 5) (pv 4) (by rfl)) (pe_tup pa_nil) (pv 12)))
 (pss_cons (ps_set (i := 7) scMore.nd rfl (.inl rfl) (pe_call GK hr (by rfl) gK FK.kp bK .nil pass0 (pa_cons (pv 1) (pa_cons (pv 3) (pa_cons (pv 4) pa_nil)))))
 (pss_cons (ps_for PassesOwn.never rfl (pi_range1 rfl B.range (pa_cons (pe_callB call_len_seq (by rfl) B.len PySem.boot_len (pa_cons (pv 1) pa_nil)) pa_nil)) (pg_name (i := 8) scMore.nd rfl (.inl rfl))
        (pss_one (ps_for PassesOwn.never rfl (pi_list (pe_call GP hr1 (by rfl) gP FP.kp bP .nil pass0 (pa_cons (pv 2) (pa_cons (pv 4) pa_nil)))) (pg_name (i := 5) scMore.nd rfl (.inl rfl))
          (pss_cons (ps_asg (pe_ix ix_list (pv 2) (pv 5) (fun _ _ => rfl)) (pg_tup (by rfl) (pgs_cons (pg_name (i := 9) scMore.nd rfl (.inl rfl)) (pgs_cons (pg_name (i := 10) scMore.nd rfl (.inl rfl)) pgs_nil))))
 (pss_cons (ps_set (i := 11) scMore.nd rfl (.inl rfl) (pe_call GT hr1 (by rfl) gT FT.kp bT .nil pass0 (pa_cons (pv 6) (pa_cons (pe_callB call_len_seq (by rfl) B.len PySem.boot_len (pa_cons (pv 1) pa_nil)) pa_nil))))
 (pss_one (ps_if (PW.pt (pw_and (pt_cmpR op_in_seq (pv 8) (pv 10) (by rfl)) (pw_and1 (pt_cmpR op_notIn_seq (pv 8) (pe_ix ix_list (pv 6) (pv 5) (fun _ _ => rfl)) (by rfl)))))
              (pss_one (ps_if (PW.pt (pw_and (pt_cmpR op_lt (pe_ix ix_list (pv 11) (pv 8) (fun _ _ => rfl)) (pe_ix ix_list (pv 7) (pv 8) (fun _ _ => rfl)) (nomark _)) (pw_and1 (pt_cmpR op_lt (pe_callB call_len_seq (by rfl) B.len PySem.boot_len (pa_cons (pe_ix ix_list (pv 6) (pv 5) (fun _ _ => rfl)) pa_nil)) (pv 9) (nomark _)))))
                (pss_one (ps_asg (pe_callTy call_tuple_of (by rfl) B.tuple (by decide +kernel) (pa_cons (pe_callB cr_sortedTu (by rfl) B.sorted (by decide +kernel) (pa_cons (pe_op op_cat1 (pe_ix ix_list (pv 6) (pv 5) (fun _ _ => rfl)) (pe_tup (pa_cons (pv 8) pa_nil))) pa_nil)) pa_nil)) (pg_sub (pv 6) (pv 5) set_list))) pss_nil)) pss_nil)))))))
 (pss_one (ps_ret (pv 6)))))), ?_⟩
    have n6 := ok.n6
    have r6 := ok.r6
    obtain ⟨w1, w2, w3⟩ := hW
    have hwl : vw.length = ws.length := Paired.len w2
    have hul : us.length = rs.length := Paired.len hP
    refine ⟨_, rfl, W, vw, rfl, w1, fun Fd nFd => ?_⟩
    refine lc_it (walk_enum (xs := vw)) (fun i H' => Same H H' ∧ ∃ fs vs, H' Fd = some (.lst fs) ∧ Paired (RowT K H') fs vs ∧ vs.length = i ∧ Wok vs) ⟨sameU nFd, [], [], upd_same, .nil, rfl, fun w h => by simp at h⟩ (fun i H' _ ⟨e, _⟩ => e.seq w1) ?_ ?_
    · rintro i x H1 H2 hi ⟨s1, fs, vs, hF1, p1, el, wo⟩ ⟨T, x1, x2, rfl, nT, rfl, f1, f2⟩
      obtain ⟨r, hr2, rv⟩ := Paired.at1 w2 f2
      obtain rfl : V.int (i : Nat) = x1 := Option.some.inj f1
      have sT : Same H1 (upd H1 T (.tup [V.int (i : Nat), x2])) := sameU nT
      refine ⟨T, _, rfl, .inl (.inl upd_same), rfl, _, _, rfl, _, _, rfl, rfl, rfl, ?_⟩
      generalize upd H1 T (.tup [V.int (i : Nat), x2]) = H3 at *
      have s3 := s1.trans sT
      have hF3 := sT _ _ hF1
      have p3 := L2.Paired.mapP p1 fun _ _ z => RowT.same sT z
      have fl : fs.length = i := by rw [Paired.len p1]; exact el
      have step : ∀ (H4 : Hp) (u : V) (wv : List Int), Same H3 H4 → RowT K H4 u wv → (wv.length ≤ 6 ∧ ∀ x ∈ wv, Dig x) → ∃ acc, H4 Fd = some (.lst acc) ∧ acc.length < sizeLine ∧ Same H (upd H4 Fd (.lst (acc ++ [u]))) ∧ ∃ fs vs, upd H4 Fd (.lst (acc ++ [u])) Fd = some (.lst fs) ∧ Paired (RowT K (upd H4 Fd (.lst (acc ++ [u])))) fs vs ∧ vs.length = i + 1 ∧ Wok vs := by
        intro H4 u wv s4 ru hu
        have hF4 := s4 _ _ hF3
        refine ⟨fs, hF4, szl (by omega), same_own (s3.trans s4) nFd, fs ++ [u], vs ++ [wv], upd_same, Paired.snoc (L2.Paired.mapP p3 fun _ _ z => RowT.upd hF4 (z.same s4)) (RowT.upd hF4 ru), by rw [List.length_append]; show vs.length + 1 = i + 1; omega, fun w hw => ?_⟩
        rcases List.mem_append.mp hw with h | h
        · exact wo w h
        · rw [List.mem_singleton.mp h]; exact hu
      dsimp only [tYes]
      refine iteT ?_
      refine ⟨_, rfl, _, rfl, ab, _, rfl, .inr (sameT s3 hA), rfl, flat_ints as, _, rfl, ?_⟩
      rw [if_neg Bool.false_ne_true, inV_int]
      refine ite2 (fun _ => ?_) (fun _ => ?_)
      · exact ⟨Nat.zero_le _, fun p np => step _ _ [] (sameU np) ⟨p, rfl, .inl (.inl upd_same)⟩ ⟨Nat.zero_le _, fun x hx => by simp at hx⟩⟩
      · exact ⟨_, rfl, step _ _ r (Same.refl _) (rv.same s3) (hwo r (List.mem_of_getElem? hr2))⟩
    · rintro H1 ⟨s1, fs, vs, hF1, p1, el, wo⟩
      rw [hwl, w3] at el
      have nFdH := nFd
      -- due
      refine ⟨_, rfl, _, rfl, _, rfl, D, W, ab, ds, vw, ws, as, rs.length, rfl, s1.seq hD, by omega, RowsAt.same ⟨w1, w2, w3⟩ s1, by omega, sameT s1 hA, fun H2 pd s2 npd hpd => ?_⟩
      have sH2 := s1.trans s2
      have hF2 := s2 _ _ hF1
      have nFp : pd ≠ Fd := fun e => by rw [e, hF1] at npd; cases npd
      have p2 := L2.Paired.mapP p1 fun _ _ z => RowT.same s2 z
      have kl := kept_len ds ws as
      generalize kept ds ws as = ks at *
      clear p1
      have sB : ∀ {H'}, But Fd H2 H' → Same H H' := fun b c o e => b c o (ne_of_none e nFdH) (sH2 c o e)
      have rng : (((ds.map V.int).length : Nat) : Int) = ((ds.length : Nat) : Int) := by rw [List.length_map]
      refine ⟨_, rfl, D, _, rfl, .inl (sH2.seq hD), _, rfl, by omega, by omega, ?_⟩
      rw [rng]
      refine for_range (lo := 0) (n := ((ds.length : Nat) : Int).toNat) (fun i σ H' => ∃ y5 y8 y9 y10 y11 : Option V, σ = [some z, some (.ref D), some (.ref R), some (.ref W), some (.ref ab), y5, some (.ref Fd), some (.ref pd), y8, y9, y10, y11, none] ∧ But Fd H2 H' ∧ ∃ fs vs, H' Fd = some (.lst fs) ∧ Paired (RowT K H') fs vs ∧ vs.length = rs.length ∧ Wok vs)
        ⟨none, none, none, none, none, rfl, fun _ _ _ e => e, fs, vs, hF2, p2, el, wo⟩ ?_ ?_
      · rintro i σ H3 hi ⟨y5, y8, y9, y10, y11, rfl, b3, fs3, vs3, hF3, p3, el3, wo3⟩
        have hi' : i < ds.length := by simpa using hi
        have ez : (0 : Int) + ((i : Nat) : Int) = ((i : Nat) : Int) := Int.zero_add _
        rw [ez]
        refine ⟨_, rfl, _, rfl, R, ab, us, as, rfl, (sB b3).seq hR, by omega, sameT (sB b3) hA, fun H4 p1 s4 np1 hp1 => ?_⟩
        have pl := pres_len us.length as
        have n1F : p1 ≠ Fd := fun e => by rw [e, hF3] at np1; cases np1
        have b4 : But Fd H2 H4 := fun c o n e => s4 _ _ (b3 c o n e)
        refine ⟨p1, rfl, ⟨_, .inl (.inl hp1)⟩, ?_⟩
        refine for_list (K := K) (a := p1) (xs := (pres us.length as).map V.int) (fun j σ H' => ∃ y5 y9 y10 y11 : Option V, σ = [some z, some (.ref D), some (.ref R), some (.ref W), some (.ref ab), y5, some (.ref Fd), some (.ref pd), some (.int (i : Int)), y9, y10, y11, none] ∧ But Fd H4 H' ∧ ∃ fs vs, H' Fd = some (.lst fs) ∧ Paired (RowT K H') fs vs ∧ vs.length = rs.length ∧ Wok vs)
          ⟨y5, y9, y10, y11, rfl, fun _ _ _ e => e, fs3, vs3, s4 _ _ hF3, L2.Paired.mapP p3 fun _ _ z => RowT.same s4 z, el3, wo3⟩ (fun j σ H' _ ⟨_, _, _, _, _, e, _⟩ => .inl (.inl (e _ _ n1F hp1))) ?_ ?_
        · rintro j x σ H5 hx ⟨y5, y9, y10, y11, rfl, b5, fs5, vs5, hF5, p5, el5, wo5⟩
          rw [List.getElem?_map] at hx
          obtain ⟨k, hk, rfl⟩ := Option.map_eq_some_iff.mp hx
          have hkm := pres_lt (List.mem_of_getElem? hk)
          obtain ⟨kn, rfl⟩ : ∃ kn : Nat, k = (kn : Int) := ⟨k.toNat, by omega⟩
          have hkn : kn < us.length := by omega
          have b25 : But Fd H2 H5 := fun c o n e => b5 c o n (b4 c o n e)
          have sH5 := sB b25
          have huk : us[kn]? = some us[kn] := List.getElem?_eq_getElem hkn
          obtain ⟨r, hr2, t, m, eu, hT, hM⟩ := Paired.at1 hP huk
          rw [eu] at huk
          have hrok := ok.ok r (List.mem_of_getElem? hr2)
          refine ⟨_, rfl, _, rfl, R, us, (kn : Int), _, rfl, rfl, sH5.seq hR, atI_nat huk, t, _, rfl, sameT sH5 hT, rfl, _, _, rfl, _, _, rfl, rfl, ?_⟩
          refine ⟨_, rfl, _, rfl, D, _, rfl, .inl (sH5.seq hD), Fd, fs5, vs5, ds.length, by rw [List.length_map]; rfl, .inl (.inl hF5), p5, by omega, by omega, fun H6 pt s6 npt hpt => ?_⟩
          have hF6 := s6 _ _ hF5
          have sH6 := sH5.trans s6
          have hM6 := sameT sH6 hM
          have p6 := L2.Paired.mapP p5 fun _ _ z => RowT.same s6 z
          have done : ∀ Hx, Same H6 Hx → ∃ z5 z9 z10 z11 : Option V, ([some z, some (.ref D), some (.ref R), some (.ref W), some (.ref ab), some (.int (kn : Int)), some (.ref Fd), some (.ref pd), some (.int (i : Int)), some (.int r.1), some (.ref m), some (.ref pt), none] : L2.St) = [some z, some (.ref D), some (.ref R), some (.ref W), some (.ref ab), z5, some (.ref Fd), some (.ref pd), some (.int (i : Int)), z9, z10, z11, none] ∧ But Fd H4 Hx ∧ ∃ fs vs, Hx Fd = some (.lst fs) ∧ Paired (RowT K Hx) fs vs ∧ vs.length = rs.length ∧ Wok vs :=
            fun Hx sx => ⟨_, _, _, _, rfl, fun c o n e => sx _ _ (s6 _ _ (b5 c o n e)), fs5, vs5, sx _ _ hF6, L2.Paired.mapP p6 fun _ _ z => RowT.same sx z, el5, wo5⟩
          have hfl : fs5.length = vs5.length := Paired.len p5
          have hkv : kn < vs5.length := by omega
          obtain ⟨wv, hwv⟩ : ∃ wv, vs5[kn]? = some wv := ⟨_, List.getElem?_eq_getElem hkv⟩
          obtain ⟨vr, hvr, tw, rfl, hRw⟩ := Paired.at2 p6 hwv
          have hww := wo5 wv (List.mem_of_getElem? hwv)
          refine ⟨_, rfl, _, rfl, m, _, rfl, .inr hM6, rfl, flat_ints r.2, _, rfl, ?_⟩
          rw [if_neg Bool.false_ne_true, inV_int]
          refine ite2 (fun _ => ?_) (fun _ => iteF (done H6 (Same.refl H6)))
          refine ⟨_, rfl, _, rfl, _, rfl, Fd, fs5, (kn : Int), _, rfl, rfl, .inl (.inl hF6), atI_nat hvr, tw, _, rfl, .inr hRw, rfl, flat_ints wv, _, rfl, ?_⟩
          rw [if_pos rfl, inV_int]
          refine ite2 (fun _ => ?_) (fun _ => done H6 (Same.refl H6))
          have tl := times_len vs5 ds.length
          generalize times vs5 ds.length = ts at *
          obtain ⟨ta, hta⟩ : ∃ ta, ts[i]? = some ta := ⟨_, List.getElem?_eq_getElem (by omega)⟩
          obtain ⟨tb, htb⟩ : ∃ tb, ks[i]? = some tb := ⟨_, List.getElem?_eq_getElem (by omega)⟩
          have hpd6 := s6 _ _ (b25 _ _ nFp hpd)
          refine ⟨_, rfl, _, rfl, pt, _, (i : Int), .int ta, rfl, rfl, .inl (.inl hpt), atI_nat (by rw [List.getElem?_map, hta]; rfl), _, rfl, _, rfl, pd, _, (i : Int), .int tb, rfl, rfl, .inl (.inl hpd6), atI_nat (by rw [List.getElem?_map, htb]; rfl), _, _, rfl, rfl, _, rfl, ite2 (fun _ => ?_) (fun _ => iteF (done H6 (Same.refl H6)))⟩
          refine ⟨_, rfl, _, rfl, Fd, fs5, (kn : Int), _, rfl, rfl, .inl (.inl hF6), atI_nat hvr, tw, _, rfl, .inr hRw, _, rfl, _, _, rfl, rfl, _, rfl, ite2 (fun cl => ?_) (fun _ => done H6 (Same.refl H6))⟩
          have cl' := of_decide_eq_true cl
          rw [List.length_map] at cl'
          have hr6 := hrok.2.1
          have l5 : wv.length ≤ 5 := by omega
          refine ⟨_, rfl, _, rfl, Fd, fs5, (kn : Int), _, rfl, rfl, .inl (.inl hF6), atI_nat hvr, _, rfl, (by decide : 1 ≤ sizeLine), fun t1 nt1 => ?_⟩
          have s7 : Same H6 (upd H6 t1 (.tup [.int (i : Int)])) := sameU nt1
          have ht1 : upd H6 t1 (.tup [V.int (i : Int)]) t1 = some (.tup [.int (i : Int)]) := upd_same
          generalize upd H6 t1 (.tup [V.int (i : Int)]) = H7 at *
          refine ⟨tw, t1, wv.map V.int, [.int (i : Int)], rfl, rfl, sameT s7 hRw, .inl (.inl ht1), szL (by rw [List.length_map]; show wv.length + 1 ≤ 1000000; omega), fun y Hn sn hy => ?_⟩
          have hy' : SqT K Hn y ((wv ++ [(i : Int)]).map V.int) := by rw [List.map_append]; exact hy
          refine ⟨y, wv ++ [(i : Int)], rfl, hy', by rw [List.length_append]; show wv.length + 1 < 64; omega, fun ns' p2' pm so np2 => ?_⟩
          refine ⟨p2', _, rfl, .inl ⟨.inl (.inl upd_same), fun tp ntp => ?_⟩⟩
          have s8 : Same Hn (upd (upd Hn p2' (.lst (ns'.map V.int))) tp (.tup (ns'.map V.int))) := (sameU np2).trans (sameU ntp)
          have ztp : upd (upd Hn p2' (.lst (ns'.map V.int))) tp (.tup (ns'.map V.int)) tp = some (.tup (ns'.map V.int)) := upd_same
          generalize upd (upd Hn p2' (.lst (ns'.map V.int))) tp (.tup (ns'.map V.int)) = H8 at *
          have s68 := s7.trans (sn.trans s8)
          have hF8 := s68 _ _ hF6
          have p8 := L2.Paired.mapP p6 fun _ _ z => RowT.same s68 z
          refine ⟨_, rfl, _, rfl, Fd, fs5, (kn : Int), kn, rfl, rfl, hF8, ?_, ?_⟩
          · unfold ixN
            rw [if_pos (by omega), if_pos (by omega)]
            simp
          refine ⟨_, _, _, _, rfl, fun c o n e => by rw [upd_ne n]; exact s68 _ _ (s6 _ _ (b5 c o n e)), fs5.set kn (.ref tp), vs5.set kn ns', upd_same, Paired.set' kn (L2.Paired.mapP p8 fun _ _ z => RowT.upd hF8 z) (RowT.upd hF8 ⟨tp, rfl, .inl (.inl ztp)⟩), by rw [List.length_set]; exact el5, fun w hw => ?_⟩
          rcases List.mem_or_eq_of_mem_set hw with h | h
          · exact wo5 w h
          · rw [h]
            refine ⟨by rw [pm.length_eq, List.length_append]; show wv.length + 1 ≤ 6; omega, fun x hx => ?_⟩
            rcases List.mem_append.mp (pm.mem_iff.mp hx) with h | h
            · exact hww.2 x h
            · rw [List.mem_singleton.mp h]; exact dig_of (by omega) (by omega)
        · rintro σ H5 ⟨y5, y9, y10, y11, rfl, b5, fs5, vs5, hF5, p5, el5, wo5⟩
          exact ⟨y5, _, y9, y10, y11, rfl, fun c o n e => b5 c o n (b4 c o n e), fs5, vs5, hF5, p5, el5, wo5⟩
      · rintro σ H3 ⟨y5, y8, y9, y10, y11, rfl, b3, fs3, vs3, hF3, p3, el3, wo3⟩
        exact ⟨_, rfl, q H3 Fd fs3 vs3 (sB b3) nFdH hF3 p3 el3 wo3⟩
end
end Ew
namespace Ew
open PySem PySem.Spec PyProof.Rows L2
abbrev sTR : Stmt := (top 40)
def spTR (K : PySem.W.Frag) (C : Addr) : Sp := fun vs H Q _ => ∃ (f x D W : Addr) (ds : List Int) (us : List V) (rs : List (Int × List Int)) (vw : List V) (ws : List (List Int)), vs = [.ref x, .ref D, .ref W] ∧ IsBook K C f H x ds us rs ∧ DsOk ds rs ∧ SqL K H D (ds.map V.int) ∧
  RowsAt K H W vw ws rs.length ∧ Wok ws ∧ ∀ H', Same H H' → Q (.bl true) H'
section
variable {P : Program} {w : World} {K : PySem.W.Frag} {mg : Str → Option Value} {base : Heap} {C : Addr}
theorem scTR : FnScope ["book", "demands", "rows", "times", "text", "enough", "many", "due"] ["book", "demands", "rows"] (defScope sTR) := ⟨rfl, rfl, rfl, by decide +kernel, rfl, by decide +kernel, by decide +kernel⟩
theorem ok_tr {f : Addr} {fd : FuncData} (F : Fun K "_law_times_right" "_law_times_right" sTR f fd) (L : Low K mg) (V1 : Vals1 K mg) (T : BookTxt K mg C) (Kk : Kl K C) (R : Rws K mg) : FnOkG P w K mg base 5 f fd ["book", "demands", "rows"] (spTR K C) := by
  obtain ⟨B, _, _, _, _, _, ⟨fT, fdT, FT, bT, gT⟩, _⟩ := L
  obtain ⟨_, _, ⟨fP, fdP, FP, bP, gP⟩, ⟨fQ, fdQ, FQ, bQ, gQ⟩, ⟨fG, fdG, FG, bG, gG⟩, ⟨fE, fdE, FE, bE, gE⟩, _⟩ := R
  have GT : FnOk P w K mg base CX0 1 fT fdT ["rows", "works"] (spTimes K) := ok_times FT B
  have GG : FnOk P w K mg base CX0 4 fG fdG ["book", "rows"] (spPkGood K C) := ok_pkGood FG B T Kk FP bP gP FQ bQ gQ
  have GE : FnOk P w K mg base CX0 4 fE fdE ["book", "rows"] (spPkEnough K C) := ok_pkEnough FE B T Kk FP bP gP FQ bQ gQ
  refine okG F scTR (fun vs H Q E h => ?_) (fun cdv A outer s H vs Q E hgd hr h => ?_)
  · obtain ⟨f, x, D, W, ds, us, rs, vw, ws, rfl, _⟩ := h
    rfl
  · obtain ⟨f, x, D, W, ds, us, rs, vw, ws, rfl, hb, ok, hD, hW, hwo, q⟩ := h
    have hr1 := hr.mono (show 1 ≤ 4 by decide)
    refine ⟨_, (pss_cons (ps_par (i := 3) (j := 4) (by rfl) scTR.nd rfl rfl (by decide) rfl rfl (pa_cons (pe_call GT hr1 (by rfl) gT FT.kp bT .nil pass0 (pa_cons (pv 2) (pa_cons (pe_callB call_len_seq (by rfl) B.len PySem.boot_len (pa_cons (pv 1) pa_nil)) pa_nil))) (pa_cons (pe_callB (call_repr hgd hr.units) (by rfl) B.repr (by decide +kernel) (pa_cons (pv 2) pa_nil)) pa_nil)) (by rfl))
 (pss_cons (ps_set (i := 5) scTR.nd rfl (.inl rfl) (pe_cmpR (op_eqNil (Nat.lt_of_le_of_lt (Nat.le_add_right _ 64) hr.units))
        (pe_lc (own := [("many", 6), ("due", 7)]) (g := gTup K 2 (gCons (gName 6) (gCons (gName 7) gNil))) (tt := tTest (tOp (rI0 fun i j => V.bl (decide (i < j))) (tVar 6) (tVar 7))) (te := tC (.int 1)) rfl scTR.nd (pi_zip (by rfl) B.zip (pa_cons (pv 3) (pa_cons (pv 1) pa_nil)))
          (blkOk_by (own := [("many", 6), ("due", 7)]) (N := ["book", "demands", "rows", "times", "text", "enough", "many", "due"]) (sc := defScope sTR) (by decide +kernel))
          (fun _ _ _ _ _ => pg_tup (by rfl) (pgs_cons (pg_name (i := 6) scTR.nd rfl (.inl rfl)) (pgs_cons (pg_name (i := 7) scTR.nd rfl (.inl rfl)) pgs_nil)))
          (fun _ _ _ _ _ => pts_one (pt_cmpR op_lt (pv 6) (pv 7) (nomark _))) (fun _ _ _ _ _ => pe_int)) (pe_lst pa_nil) (nomark _)))
 (pss_cons (ps_if (pt_cmpR op_ne (pe_callB (call_repr hgd hr.units) (by rfl) B.repr (by decide +kernel) (pa_cons (pe_call GG hr (by rfl) gG FG.kp bG .nil pass0 (pa_cons (pv 0) (pa_cons (pv 2) pa_nil))) pa_nil))
        (pe_callB (call_repr hgd hr.units) (by rfl) B.repr (by decide +kernel) (pa_cons (pe_cmpR (op_eqD hr.units) (pv 3) (pv 1) (nomark _)) pa_nil)) (nomark _)) (pss_one (ps_ret pe_bl)) pss_nil)
 (pss_one (ps_ret (pe_and (pe_cmpR op_eq (pe_callB (call_repr hgd hr.units) (by rfl) B.repr (by decide +kernel) (pa_cons (pe_call GE hr (by rfl) gE FE.kp bE .nil pass0 (pa_cons (pv 0) (pa_cons (pv 2) pa_nil))) pa_nil))
        (pe_callB (call_repr hgd hr.units) (by rfl) B.repr (by decide +kernel) (pa_cons (pv 5) pa_nil)) (nomark _))
        (pe_one (pe_cmpR op_eq (pe_callB (call_repr hgd hr.units) (by rfl) B.repr (by decide +kernel) (pa_cons (pv 2) pa_nil)) (pv 4) (nomark _))))))))), ?_⟩
    have n6 := ok.n6
    have r6 := ok.r6
    have one_ : 1 ≤ sizeLine := by decide
    have shw : (dWs ws).showable = true ∧ (dWs ws).shown.length ≤ 2 + ws.length * (5 + 6 * 3) := show_dWs (b := 6) hwo
    have w3 := hW.len
    have shl : (dWs ws).shown.length ≤ sizeLine := szL (by have := shw.2; omega)
    have dw := dep_dWs ws
    have s5 : (5 : Nat) ≤ sizeLine := by decide
    refine ⟨_, rfl, _, rfl, D, _, rfl, .inl hD, W, vw, ws, ds.length, by rw [List.length_map]; rfl, hW.at_, hW.rows, by omega, by omega, fun H1 p s1 np hp => ?_⟩
    have tl := times_len ws ds.length
    have hW1 := hW.same s1
    obtain ⟨sh, hsh⟩ : ∃ sh, (dWs ws).shown = sh := ⟨_, rfl⟩
    refine ⟨_, rfl, _, dWs ws, rfl, dp_dWs hW1.at_ hW1.rows, shw.1, by omega, shl, ⟨_, _, rfl, ?_⟩⟩
    rw [hsh]
    obtain ⟨ts, hts⟩ : ∃ ts, times ws ds.length = ts := ⟨_, rfl⟩
    rw [hts] at hp tl
    have hD1 := s1.seq hD
    -- enough
    refine ⟨_, rfl, _, rfl, p, D, _, _, rfl, .inl (.inl hp), hD1, fun L nL => ?_⟩
    refine lc_it (walk_zip (xs := ts.map V.int) (ys := ds.map V.int) (n := ts.length) (by rw [List.length_map, List.length_map]; omega)) (fun i H' => Same H1 H' ∧ ∃ acc : List V, H' L = some (.lst acc) ∧ acc.length ≤ i ∧ acc.isEmpty = ((ts.zip ds).take i).all fun z => decide (z.2 ≤ z.1)) ⟨sameU nL, [], upd_same, Nat.le_refl _, rfl⟩ (fun i H' _ ⟨e, _⟩ => ⟨.inl (.inl (e _ _ hp)), e.seq hD1⟩) ?_ ?_
    · rintro i y H2 H3 hi ⟨s2, acc, hL, al, ae⟩ ⟨tt, x1, x2, rfl, nt, rfl, f1, f2⟩
      replace f1 : (ts.map V.int)[i]? = some x1 := f1
      replace f2 : (ds.map V.int)[i]? = some x2 := f2
      rw [List.getElem?_map] at f1 f2
      obtain ⟨a, ha, rfl⟩ := Option.map_eq_some_iff.mp f1
      obtain ⟨b, hb2, rfl⟩ := Option.map_eq_some_iff.mp f2
      have sT := s2.trans (sameU (o := .tup [V.int a, V.int b]) nt)
      refine ⟨tt, _, rfl, .inl (.inl upd_same), rfl, _, _, rfl, _, _, rfl, rfl, rfl, ?_⟩
      have hL2 := sameU (o := .tup [V.int a, V.int b]) nt _ _ hL
      have tz := take_more (zip_at ha hb2)
      refine ⟨_, rfl, _, rfl, _, _, rfl, rfl, _, rfl, ite2 (fun c => ?_) (fun c => ?_)⟩
      · have c' := of_decide_eq_true c
        refine ⟨acc, hL2, szl (by omega), same_own sT nL, acc ++ [.int 1], upd_same, by rw [List.length_append]; show acc.length + 1 ≤ i + 1; omega, ?_⟩
        rw [tz, List.all_append, List.all_cons, decide_eq_false (by show ¬ b ≤ a; omega)]
        simp
      · have c' : ¬ a < b := fun h => c (decide_eq_true h)
        refine ⟨sT, acc, hL2, by omega, ?_⟩
        rw [tz, List.all_append, List.all_cons, decide_eq_true (by show b ≤ a; omega), ae]
        simp
    · rintro H2 ⟨s2, acc, hL, al, ae⟩
      have hz : (ts.zip ds).length = ts.length := by rw [List.length_zip]; omega
      rw [← hz, List.take_length] at ae
      have ae' : acc.isEmpty = enB ds ts := ae
      refine ⟨Nat.zero_le _, fun e ne => ?_⟩
      have se : Same H2 (upd H2 e (.lst [])) := sameU ne
      refine ⟨L, e, acc, rfl, rfl, .inl (.inl (se _ _ hL)), .inl (.inl upd_same), ?_⟩
      rw [if_neg Bool.false_ne_true, ae']
      have s12 := s1.trans (s2.trans se)
      have hp3 := (s2.trans se) _ _ hp
      generalize upd H2 e (.lst []) = H3 at *
      -- good
      refine ⟨_, rfl, _, rfl, f, x, W, ds, us, rs, vw, ws, rfl, hb.same s12, ok, hW.same s12, fun H4 s4 => ?_⟩
      have s14 := s12.trans s4
      obtain ⟨b1, hb1⟩ : ∃ b, decide (times ws ds.length = ds) = b := ⟨_, rfl⟩
      rw [hb1]
      refine ⟨_, .bool b1, rfl, .bl b1, (show_bool b1).1, Nat.zero_le _, Nat.le_trans (show_bool b1).2 s5, ?_⟩
      refine ⟨_, rfl, _, rfl, dI ts, dI ds, dp_dI (.inl (.inl (s4 _ _ hp3))), dp_dI (s14.seq hD), shp_dI _, shp_dI _, ?_⟩
      rw [eqv_dI, ← hts, hb1]
      refine ⟨_, .bool b1, rfl, .bl b1, (show_bool b1).1, Nat.zero_le _, Nat.le_trans (show_bool b1).2 s5, rfl, _, rfl, ?_⟩
      show (if (!decide (V.str (PyData.shown (.bool b1)) = V.str (PyData.shown (.bool b1)))) = true then _ else _)
      refine iteNS rfl ?_
      -- enough
      refine ⟨_, rfl, _, rfl, f, x, W, ds, us, rs, vw, ws, rfl, hb.same s14, ok, hW.same s14, fun H5 s5' => ?_⟩
      have s15 := s14.trans s5'
      rw [hts]
      obtain ⟨b2, hb2⟩ : ∃ b, enB ds ts = b := ⟨_, rfl⟩
      rw [hb2]
      refine ⟨_, .bool b2, rfl, .bl b2, (show_bool b2).1, Nat.zero_le _, Nat.le_trans (show_bool b2).2 s5, ?_⟩
      refine ⟨_, rfl, _, .bool b2, rfl, .bl b2, (show_bool b2).1, Nat.zero_le _, Nat.le_trans (show_bool b2).2 s5, rfl, _, rfl, ?_⟩
      rw [decide_eq_true rfl]
      refine iteT ?_
      have hW5 := hW.same s15
      refine ⟨_, rfl, _, dWs ws, rfl, dp_dWs hW5.at_ hW5.rows, shw.1, by omega, shl, _, rfl, rfl, ?_⟩
      rw [hsh, decide_eq_true rfl]
      exact q H5 s15
end
end Ew
namespace Ew
open PySem PySem.Spec PyProof.Rows L2
/-- rows as a value -/
def RowsV (K : PySem.W.Frag) (f : Addr) (n : Nat) (H : Hp) (v : V) : Prop := ∃ W vw ws, v = .ref W ∧ W ≠ f ∧ H W = some (.lst vw) ∧ Paired (RowT K H) vw ws ∧ ws.length = n ∧ Wok ws
def AbsV (K : PySem.W.Frag) (H : Hp) (v : V) : Prop := ∃ (ab : Addr) (as : List Int), v = .ref ab ∧ SqT K H ab (as.map V.int)
theorem RowsV.ext {K : PySem.W.Frag} {f : Addr} {n : Nat} {H H' : Hp} {v : V} (hf : FeedAt H f) (e : Ext1 f H H') (h : RowsV K f n H v) : RowsV K f n H' v := by
  obtain ⟨W, vw, ws, h1, h2, h3, h4, h5, h6⟩ := h
  exact ⟨W, vw, ws, h1, h2, e.1 _ _ h2 h3, L2.Paired.mapP h4 fun _ _ z => RowT.ext e hf z, h5, h6⟩
theorem AbsV.ext {K : PySem.W.Frag} {f : Addr} {H H' : Hp} {v : V} (hf : FeedAt H f) (e : Ext1 f H H') (h : AbsV K H v) : AbsV K H' v := let ⟨ab, as, h1, h2⟩ := h; ⟨ab, as, h1, e.sqT hf h2⟩
theorem RowsV.nice {K : PySem.W.Frag} {f : Addr} {n : Nat} {H : Hp} {v : V} (h : RowsV K f n H v) (n6 : n ≤ 6) : Nice K (fun p => p ≠ f) 3 4000 H v := by
  obtain ⟨W, vw, ws, rfl, h2, h3, h4, h5, h6⟩ := h
  have := Paired.len h4
  exact (nice_lst (P := fun p => p ≠ f) h2 h3 (nice_rows h4 h6)).mono (by decide) (by omega)
/-- rows that stand at W -/
structure RwA (K : PySem.W.Frag) (W : Addr) (vw : List V) (ws : List (List Int)) (H : Hp) : Prop where
  at_ : H W = some (.lst vw)
  rows : Paired (RowT K H) vw ws
theorem RwA.ext {K : PySem.W.Frag} {f W : Addr} {vw ws} {H H' : Hp} (h : RwA K W vw ws H) (n : W ≠ f) (hf : FeedAt H f) (e : Ext1 f H H') : RwA K W vw ws H' := ⟨e.1 _ _ n h.at_, L2.Paired.mapP h.rows fun _ _ z => RowT.ext e hf z⟩
theorem RwA.same {K : PySem.W.Frag} {W : Addr} {vw ws} {H H' : Hp} (h : RwA K W vw ws H) (e : Same H H') : RwA K W vw ws H' := ⟨e _ _ h.at_, L2.Paired.mapP h.rows fun _ _ z => RowT.same e z⟩
theorem RwA.rat {K : PySem.W.Frag} {W : Addr} {vw ws} {H : Hp} {n : Nat} (h : RwA K W vw ws H) (l : ws.length = n) : RowsAt K H W vw ws n := ⟨.inl (.inl h.at_), h.rows, l⟩
/-- what stands around a turn -/
structure Amb (K : PySem.W.Frag) (C f A R x Gn Ev : Addr) (ds : List Int) (us : List V) (rs : List (Int × List Int)) (evs gns : List V) (H : Hp) : Prop where
  feed : FeedAt H f
  fA : A ≠ f
  fR : R ≠ f
  fG : Gn ≠ f
  fE : Ev ≠ f
  dem : H A = some (.lst (ds.map V.int))
  rd : H R = some (.lst us)
  rds : Paired (RdT K H) us rs
  bk : IsBook K C f H x ds us rs
  ev : H Ev = some (.lst evs)
  evs2 : evs.length = 2
  evr : ∀ v ∈ evs, RowsV K f rs.length H v
  gn : H Gn = some (.lst gns)
  gns2 : gns.length = 2
  gnr : ∀ v ∈ gns, AbsV K H v
theorem Amb.ext {K : PySem.W.Frag} {C f A R x Gn Ev : Addr} {ds us rs evs gns} {H H' : Hp} (h : Amb K C f A R x Gn Ev ds us rs evs gns H) (e : Ext1 f H H') : Amb K C f A R x Gn Ev ds us rs evs gns H' :=
  ⟨e.feed, h.fA, h.fR, h.fG, h.fE, e.1 _ _ h.fA h.dem, e.1 _ _ h.fR h.rd, L2.Paired.mapP h.rds fun _ _ z => z.ext e h.feed, h.bk.ext h.feed e, e.1 _ _ h.fE h.ev, h.evs2, fun v hv => (h.evr v hv).ext h.feed e, e.1 _ _ h.fG h.gn, h.gns2, fun v hv => (h.gnr v hv).ext h.feed e⟩
theorem Amb.same {K : PySem.W.Frag} {C f A R x Gn Ev : Addr} {ds us rs evs gns} {H H' : Hp} (h : Amb K C f A R x Gn Ev ds us rs evs gns H) (e : Same H H') : Amb K C f A R x Gn Ev ds us rs evs gns H' := h.ext (Ext1.same h.feed e)
/-- k05's own defs besides -/
structure Own5 (K : PySem.W.Frag) (mg : Str → Option Value) : Prop where
  nearRow : ∃ f fd, Fun K "_law_near_row" "_law_near_row" sNearRow f fd ∧ Binds K fd ["feed", "row", "works"] [] ∧ mg "_law_near_row" = some (.ref f)
  near : ∃ f fd, Fun K "_law_near" "_law_near" sNear f fd ∧ Binds K fd ["feed", "value", "works"] [] ∧ mg "_law_near" = some (.ref f)
  more : ∃ f fd, Fun K "_law_more" "_law_more" sMore f fd ∧ Binds K fd ["feed", "demands", "readers", "rows", "absent"] [] ∧ mg "_law_more" = some (.ref f)
  tr : ∃ f fd, Fun K "_law_times_right" "_law_times_right" sTR f fd ∧ Binds K fd ["book", "demands", "rows"] [] ∧ mg "_law_times_right" = some (.ref f)
section
variable {P : Program} {w : World} {K : PySem.W.Frag} {mg : Str → Option Value} {base : Heap} {C : Addr}
theorem wok_of {rs : List (Int × List Int)} {n : Nat} (ok : RdsAt n rs) (h6 : n ≤ 6) {ws : List (List Int)} (ro : Paired RowOk rs ws) : Wok ws := fun w hw => by
  obtain ⟨j, hj, e⟩ := List.mem_iff_getElem.mp hw
  obtain ⟨r, hr2, o⟩ := Paired.at2 ro (show ws[j]? = some w by rw [List.getElem?_eq_getElem hj, e])
  have hok := ok r (List.mem_of_getElem? hr2)
  have := o.2.2
  have := hok.2.1
  exact ⟨by omega, fun z hz => by have := hok.2.2.2 z (o.2.1 z hz); unfold Dig; omega⟩
theorem scLaw : FnScope ["script", "k", "feed", "demands", "readers", "book", "works", "gone", "every", "turn", "rows", "absent", "value", "change", "shown", "due", "odd"] ["script"] (defScope sLaw) := ⟨rfl, rfl, rfl, by decide +kernel, rfl, by decide +kernel, by decide +kernel⟩
theorem ok_law {f : Addr} {fd : FuncData} (F : Fun K "law" "law" sLaw f fd) (L : Low K mg) (V1 : Vals1 K mg) (T : BookTxt K mg C) (N : NoBook K C) (Kk : Kl K C) (Rw : Rws K mg) (Lr : LRws K mg) (O : Own5 K mg) (hb0 : ∃ o, base.get? sysModules = some o) : FnOkG P w K mg base 6 f fd ["script"] (spLaw K) := by
  have L' := L
  have B := L.bi
  obtain ⟨_, ⟨fF, fdF, FF, bF, gF⟩, ⟨fTk, fdTk, FTk, bTk, gTk⟩, ⟨fPk, fdPk, FPk, bPk, gPk⟩, ⟨fRw, fdRw, FRw, bRw, gRw⟩, ⟨fS, fdS, FS, bS, gS⟩, _, ⟨fB, fdB, FB, bB, gB⟩⟩ := L'
  obtain ⟨fI, fdI, FI, bI, mk⟩ := T.init
  obtain ⟨fE, fdE, FE, bE, mE⟩ := T.eq
  have Rw' := Rw
  have Lr' := Lr
  obtain ⟨⟨fW, fdW, FW, bW, gW⟩, ⟨fO, fdO, FO, bO, gO⟩, _, _, _, _, _, ⟨fX, fdX, FX, bX, gX⟩⟩ := Rw'
  obtain ⟨Bs, ⟨fw, fdw, Fw, bw, gw⟩, ⟨fo, fdo, Fo, bo, go⟩, _, ⟨fx, fdx, Fx, bx, gx⟩, ⟨fG, fdG, FG, bG, gG⟩, _⟩ := Lr'
  obtain ⟨⟨fn, fdn, Fn, bn, gn⟩, ⟨fN, fdN, FN, bN, gN⟩, ⟨fM, fdM, FM, bM, gM⟩, ⟨fT, fdT, FT, bT, gT⟩⟩ := O
  have GF : FnOk P w K mg base CX0 1 fF fdF ["script", "k"] (spFeed K) := ok_feed FF B
  have GB : FnOk P w K mg base CX0 4 fB fdB ["feed", "most_works", "most_readers"] (spBook K) := ok_book FB L
  have GI : FnOk P w K mg base CX0 4 fI fdI ["self", "demands", "readers"] (spBkInit K C) := ok_bkInit FI V1 T
  have GE : FnOk P w K mg base CX0 1 fE fdE ["self", "other"] (spBkEq K C) := ok_bkEq FE B T N
  have GG : FnOk P w K mg base CX0 2 fG fdG ["feed", "readers"] (spGone K) := ok_gone FG L
  have GS : FnOk P w K mg base CX0 3 fS fdS ["feed", "readers", "absent"] (spRows K) := ok_rows FS FTk bTk gTk FRw bRw gRw B
  have GP : FnOk P w K mg base CX0 2 fPk fdPk ["feed", "some"] (spPick K) := ok_pick FPk FTk bTk gTk B
  have GO : FnOk P w K mg base CX0 4 fO fdO ["book", "value"] (spPkRows K C) := ok_pkRows FO V1 T Kk FW bW gW
  have GX : FnOk P w K mg base CX0 5 fX fdX ["book", "rows", "absent", "value"] (spPkExt K C) := ok_pkExt FX V1 T Kk Rw
  have Go : FnOk P w K mg base CX0 2 fo fdo ["value", "readers", "works"] (spLRows K) := ok_lRows Fo B Bs Fw bw gw
  have Gx : FnOk P w K mg base CX0 3 fx fdx ["demands", "readers", "rows", "absent", "value"] (spLExt K) := ok_lExt Fx L Lr
  have GN : FnOk P w K mg base CX0 4 fN fdN ["feed", "value", "works"] (spNear K) := ok_near FN L Fn bn gn
  have GM : FnOk P w K mg base CX0 3 fM fdM ["feed", "demands", "readers", "rows", "absent"] (spMore K) := ok_more FM L Lr
  have GT : FnOkG P w K mg base 5 fT fdT ["book", "demands", "rows"] (spTR K C) := ok_tr FT L V1 T Kk Rw
  refine okG F scLaw (fun vs H Q E h => ?_) (fun cdv A outer s H vs Q E hgd hr h => ?_)
  · obtain ⟨a, ns, rfl, _⟩ := h
    rfl
  · obtain ⟨a, ns, rfl, hS, hlen, q⟩ := h
    have hr1 : Room 1 _ := hr.mono (by decide)
    have hr2 : Room 2 _ := hr.mono (by decide)
    have hr3 : Room 3 _ := hr.mono (by decide)
    have hr4 : Room 4 _ := hr.mono (by decide)
    refine ⟨_, (pss_cons (ps_for PassesOwn.never rfl (pi_range1 rfl B.range (pa_cons (pe_callB (call_max2 rfl) (by rfl) B.max (by decide +kernel) (pa_cons pe_int (pa_cons (pe_callB (call_min2 rfl) (by rfl) B.min (by decide +kernel) (pa_cons pe_int (pa_cons (pe_callB call_len_seq (by rfl) B.len PySem.boot_len (pa_cons (pv 0) pa_nil)) pa_nil))) pa_nil))) pa_nil)) (pg_name (i := 1) scLaw.nd rfl (.inl rfl))
  (pss_cons (ps_set (i := 2) scLaw.nd rfl (.inl rfl) (pe_call GF hr1 (by rfl) gF FF.kp bF .nil pass0 (pa_cons (pv 0) (pa_cons (pv 1) pa_nil))))
 (pss_cons (ps_asg (pe_call GB hr4 (by rfl) gB FB.kp bB .nil pass0 (pa_cons (pv 2) (pa_cons pe_int (pa_cons pe_int pa_nil)))) (pg_unl (by rfl) (pgs_cons (pg_name (i := 3) scLaw.nd rfl (.inl rfl)) (pgs_cons (pg_name (i := 4) scLaw.nd rfl (.inl rfl)) pgs_nil))))
 (pss_cons (ps_par (i := 5) (j := 6) (by rfl) scLaw.nd rfl rfl (by decide) rfl rfl (pa_cons (pe_make mk GI hr (by rfl) T.mgC bI .nil pass0 (pa_cons (pv 3) (pa_cons (pv 4) pa_nil))) (pa_cons (pe_callB call_len_seq (by rfl) B.len PySem.boot_len (pa_cons (pv 3) pa_nil)) pa_nil)) (by rfl))
 (pss_cons (ps_set (i := 7) scLaw.nd rfl (.inl rfl) (pe_lst (pa_cons (pe_call GG hr2 (by rfl) gG FG.kp bG .nil pass0 (pa_cons (pv 2) (pa_cons (pv 4) pa_nil))) (pa_cons (pe_call GG hr2 (by rfl) gG FG.kp bG .nil pass0 (pa_cons (pv 2) (pa_cons (pv 4) pa_nil))) pa_nil))))
 (pss_cons (ps_set (i := 8) scLaw.nd rfl (.inl rfl) (pe_lst (pa_cons (pe_call GS hr3 (by rfl) gS FS.kp bS .nil pass0 (pa_cons (pv 2) (pa_cons (pv 4) (pa_cons (pe_tup pa_nil) pa_nil)))) (pa_cons (pe_call GS hr3 (by rfl) gS FS.kp bS .nil pass0 (pa_cons (pv 2) (pa_cons (pv 4) (pa_cons (pe_tup pa_nil) pa_nil)))) pa_nil))))
 (pss_cons (ps_for PassesOwn.never rfl (pi_range1 rfl B.range (pa_cons pe_int pa_nil)) (pg_name (i := 9) scLaw.nd rfl (.inl rfl))
    (pss_cons (ps_par (i := 10) (j := 11) (by rfl) scLaw.nd rfl rfl (by decide) rfl rfl (pa_cons (pe_call GP hr2 (by rfl) gPk FPk.kp bPk .nil pass0 (pa_cons (pv 2) (pa_cons (pv 8) pa_nil))) (pa_cons (pe_call GP hr2 (by rfl) gPk FPk.kp bPk .nil pass0 (pa_cons (pv 2) (pa_cons (pv 7) pa_nil))) pa_nil)) (by rfl))
 (pss_cons (ps_if (pt_not (pt_val (pe_callG GT hgd hr (by rfl) gT FT.kp bT (pa_cons (pv 5) (pa_cons (pv 3) (pa_cons (pv 10) pa_nil)))))) (pss_one (ps_ret pe_bl)) pss_nil)
 (pss_cons (ps_set (i := 12) scLaw.nd rfl (.inl rfl) (pe_call GP hr2 (by rfl) gPk FPk.kp bPk .nil pass0 (pa_cons (pv 2) (pa_cons (pe_lst (pa_cons (pv 10) (pa_cons (pe_call GM hr3 (by rfl) gM FM.kp bM .nil pass0 (pa_cons (pv 2) (pa_cons (pv 3) (pa_cons (pv 4) (pa_cons (pv 10) (pa_cons (pv 11) pa_nil)))))) pa_nil))) pa_nil))))
 (pss_cons (ps_for PassesOwn.never rfl (pi_range1 rfl B.range (pa_cons (pe_call GP hr2 (by rfl) gPk FPk.kp bPk .nil pass0 (pa_cons (pv 2) (pa_cons (pe_lst (pa_cons pe_int (pa_cons pe_int (pa_cons pe_int (pa_cons pe_int (pa_cons pe_int pa_nil)))))) pa_nil))) pa_nil)) (pg_name (i := 13) scLaw.nd rfl (.inl rfl))
        (pss_one (ps_if (pt_val (pe_call Go hr2 (by rfl) go Fo.kp bo .nil pass0 (pa_cons (pv 12) (pa_cons (pv 4) (pa_cons (pv 6) pa_nil))))) (pss_one (ps_set (i := 12) scLaw.nd rfl (.inl rfl) (pe_call GN hr4 (by rfl) gN FN.kp bN .nil pass0 (pa_cons (pv 2) (pa_cons (pv 12) (pa_cons (pv 6) pa_nil)))))) pss_nil)))
 (pss_cons (ps_set (i := 14) scLaw.nd rfl (.inl rfl) (pe_callB (call_reprQ hb0 hgd hr.units) (by rfl) B.repr (by decide +kernel) (pa_cons (pe_lst (pa_cons (pv 12) (pa_cons (pv 10) pa_nil))) pa_nil)))
 (pss_cons (ps_if (pt_cmpR op_ne (pe_callB (call_repr hgd hr.units) (by rfl) B.repr (by decide +kernel) (pa_cons (pe_call GO hr4 (by rfl) gO FO.kp bO .nil pass0 (pa_cons (pv 5) (pa_cons (pv 12) pa_nil))) pa_nil)) (pe_callB (call_repr hgd hr.units) (by rfl) B.repr (by decide +kernel) (pa_cons (pe_call Go hr2 (by rfl) go Fo.kp bo .nil pass0 (pa_cons (pv 12) (pa_cons (pv 4) (pa_cons (pv 6) pa_nil)))) pa_nil)) (nomark _)) (pss_one (ps_ret pe_bl)) pss_nil)
 (pss_cons (ps_set (i := 15) scLaw.nd rfl (.inl rfl) (pe_call Gx hr3 (by rfl) gx Fx.kp bx .nil pass0 (pa_cons (pv 3) (pa_cons (pv 4) (pa_cons (pv 10) (pa_cons (pv 11) (pa_cons (pv 12) pa_nil)))))))
 (pss_one (ps_if (PW.pt (pw_or (pt_cmpR op_ne (pe_callB (call_repr hgd hr.units) (by rfl) B.repr (by decide +kernel) (pa_cons (pe_call GX hr (by rfl) gX FX.kp bX .nil pass0 (pa_cons (pv 5) (pa_cons (pv 10) (pa_cons (pv 11) (pa_cons (pv 12) pa_nil))))) pa_nil)) (pe_callB (call_repr hgd hr.units) (by rfl) B.repr (by decide +kernel) (pa_cons (pv 15) pa_nil)) (nomark _))
        (pw_or1 (pt_cmpR op_ne (pe_callB (call_reprQ hb0 hgd hr.units) (by rfl) B.repr (by decide +kernel) (pa_cons (pe_lst (pa_cons (pv 12) (pa_cons (pv 10) pa_nil))) pa_nil)) (pv 14) (nomark _))))) (pss_one (ps_ret pe_bl)) pss_nil))))))))))
 (pss_cons (ps_for PassesOwn.never rfl (pi_tup (pe_tup (pa_cons (pv 5) (pa_cons pe_int (pa_cons pe_bl (pa_cons (pe_op op_pow pe_int pe_int) pa_nil)))))) (pg_name (i := 16) scLaw.nd rfl (.inl rfl))
    (pss_cons (ps_if (pt_cmpR op_isnot_bl (pe_call GO hr4 (by rfl) gO FO.kp bO .nil pass0 (pa_cons (pv 5) (pa_cons (pv 16) pa_nil))) pe_bl (nomark _)) (pss_one (ps_ret pe_bl)) pss_nil)
 (pss_one (ps_if (pt_cmpR op_isnot_bl (pe_call GX hr (by rfl) gX FX.kp bX .nil pass0 (pa_cons (pv 5) (pa_cons (pv 10) (pa_cons (pv 11) (pa_cons (pv 16) pa_nil))))) pe_bl (nomark _)) (pss_one (ps_ret pe_bl)) pss_nil))))
 (pss_one (ps_if (pt_not (pt_cmpR (op_eqOwn GE hr1 mE.at_ mE.fn bE) (pv 5) (pe_make mk GI hr (by rfl) T.mgC bI .nil pass0 (pa_cons (pv 3) (pa_cons (pv 4) pa_nil))) (nomark _))) (pss_one (ps_ret pe_bl)) pss_nil))))))))))
 (pss_one (ps_ret pe_bl))), ?_⟩
    have one_ : 1 ≤ sizeLine := by decide
    have two : 2 ≤ sizeLine := by decide
    have s5 : (5 : Nat) ≤ sizeLine := by decide
    refine ⟨_, rfl, a, _, rfl, .inl hS, _, _, rfl, _, _, rfl, _, rfl, (by split <;> (try split) <;> omega), (by split <;> (try split) <;> omega), ?_⟩
    refine for_range (lo := 0) (fun i σ H' => ∃ y1 y2 y3 y4 y5 y6 y7 y8 y9 y10 y11 y12 y13 y14 y15 y16 : Option V, σ = [some (.ref a), y1, y2, y3, y4, y5, y6, y7, y8, y9, y10, y11, y12, y13, y14, y15, y16] ∧ Same H H') ⟨none, none, none, none, none, none, none, none, none, none, none, none, none, none, none, none, rfl, Same.refl H⟩ ?_ ?_
    · rintro i σ H1 hi ⟨y1, y2, y3, y4, y5, y6, y7, y8, y9, y10, y11, y12, y13, y14, y15, y16, rfl, s1⟩
      have hi3 : i < 3 := by
        refine Nat.lt_of_lt_of_le hi ?_
        split <;> (try split) <;> omega
      refine ⟨_, rfl, _, rfl, a, ns, 0 + (i : Int), rfl, s1.seq hS, hlen, by omega, by omega, fun H2 f s2 nf hf => ?_⟩
      have nf0 : H f = none := s1.free nf
      refine ⟨_, rfl, f, 6, 6, rfl, hf, by decide, by decide, by decide, by decide, fun H3 p A R ds us rs e3 np nA nR hp bk npA npR _ _ => ?_⟩
      have ok := bk.dsOk
      have fA : A ≠ f := hf.ne nA
      have fR : R ≠ f := hf.ne nR
      have s3 : Same H H3 := sameX (s1.trans s2) nf0 e3
      have hf3 := e3.feed
      refine ⟨p, _, rfl, .inl (.inl hp), rfl, _, _, rfl, _, _, rfl, rfl, ?_⟩
      have hul : us.length = rs.length := Paired.len bk.rds
      have r6 := ok.r6
      have n6 := ok.n6
      have n1 := ok.n1
      -- book, works
      refine ⟨_, rfl, _, rfl, fun x dx nx ndx nex => init_of (K := K) (rs := rs) hf3 nx ndx nex (.inl (.inl bk.dem)) (.inl (.inl bk.rd)) bk.rds ok fun H4 s4 b4 => ⟨rfl, ?_⟩⟩
      have hf4 : FeedAt H4 f := let ⟨d, t, e⟩ := hf3; ⟨d, t, s4 _ _ e⟩
      refine ⟨_, rfl, A, _, rfl, .inl (.inl (.inl (s4 _ _ bk.dem))), ⟨_, _, rfl, ?_⟩⟩
      rw [show (ds.map V.int).length = ds.length from List.length_map _]
      -- gone
      refine ⟨_, rfl, _, rfl, f, R, us, rfl, hf4, fR, .inl (.inl (s4 _ _ bk.rd)), by omega, fun H5 g1 as1 e5 ng1 hg1 asc1 => ?_⟩
      refine ⟨_, rfl, _, rfl, f, R, us, rfl, e5.feed, fR, .inl (.inl (e5.1 _ _ fR (s4 _ _ bk.rd))), by omega, fun H6 g2 as2 e6 ng2 hg2 asc2 => ⟨two, fun Gn nGn => ?_⟩⟩
      have t7 : Ext1 f H6 (upd H6 Gn (.lst [.ref g1, .ref g2])) := (Ext1.refl e6.feed).new nGn
      have fG : Gn ≠ f := e6.feed.ne nGn
      have hGn : upd H6 Gn (.lst [.ref g1, .ref g2]) Gn = some (.lst [.ref g1, .ref g2]) := upd_same
      generalize upd H6 Gn (.lst [.ref g1, .ref g2]) = H7 at *
      have e47 := e5.trans (e6.trans t7)
      -- every
      refine ⟨_, rfl, _, rfl, Nat.zero_le _, fun q1 z1 => ?_⟩
      have t8 : Ext1 f H7 (upd H7 q1 (.tup [])) := (Ext1.refl t7.feed).new z1
      have e48 := e47.trans t8
      refine ⟨f, R, q1, rs, [], rfl, t8.feed, fR, ⟨us, .inl (.inl (e48.1 _ _ fR (s4 _ _ bk.rd))), L2.Paired.mapP bk.rds fun _ _ z => (z.same s4).ext e48 hf4⟩, rdsOk_of ok.ok (by omega) (by omega), by omega, .inl (.inl upd_same), fun H9 W1 vw1 ws1 e9 nW1 hW1 pw1 ro1 _ => ?_⟩
      have fW1 : W1 ≠ f := t8.feed.ne nW1
      refine ⟨_, rfl, _, rfl, Nat.zero_le _, fun q2 z2 => ?_⟩
      have t10 : Ext1 f H9 (upd H9 q2 (.tup [])) := (Ext1.refl e9.feed).new z2
      have e410 := e48.trans (e9.trans t10)
      refine ⟨f, R, q2, rs, [], rfl, t10.feed, fR, ⟨us, .inl (.inl (e410.1 _ _ fR (s4 _ _ bk.rd))), L2.Paired.mapP bk.rds fun _ _ z => (z.same s4).ext e410 hf4⟩, rdsOk_of ok.ok (by omega) (by omega), by omega, .inl (.inl upd_same), fun H11 W2 vw2 ws2 e11 nW2 hW2 pw2 ro2 _ => ⟨two, fun Ev nEv => ?_⟩⟩
      have fW2 : W2 ≠ f := t10.feed.ne nW2
      have fE : Ev ≠ f := e11.feed.ne nEv
      have t12 : Ext1 f H11 (upd H11 Ev (.lst [.ref W1, .ref W2])) := (Ext1.refl e11.feed).new nEv
      have hEv : upd H11 Ev (.lst [.ref W1, .ref W2]) Ev = some (.lst [.ref W1, .ref W2]) := upd_same
      generalize upd H11 Ev (.lst [.ref W1, .ref W2]) = H12 at *
      have e9_12 := t10.trans (e11.trans t12)
      have e7_12 := t8.trans (e9.trans e9_12)
      have e412 := e47.trans e7_12
      have amb : Amb K C f A R x Gn Ev ds us rs [.ref W1, .ref W2] [.ref g1, .ref g2] H12 := by
        refine ⟨t12.feed, fA, fR, fG, fE, e412.1 _ _ fA (s4 _ _ bk.dem), e412.1 _ _ fR (s4 _ _ bk.rd), L2.Paired.mapP bk.rds fun _ _ z => (z.same s4).ext e412 hf4, b4.ext hf4 e412, hEv, rfl, ?_, e7_12.1 _ _ fG hGn, rfl, ?_⟩
        · intro v hv
          simp only [List.mem_cons, List.not_mem_nil, or_false] at hv
          rcases hv with rfl | rfl
          · exact ⟨W1, vw1, ws1, rfl, fW1, e9_12.1 _ _ fW1 hW1, L2.Paired.mapP pw1 fun _ _ z => RowT.ext e9_12 e9.feed z, (Paired.len ro1).symm, wok_of ok.ok n6 ro1⟩
          · exact ⟨W2, vw2, ws2, rfl, fW2, t12.1 _ _ fW2 hW2, L2.Paired.mapP pw2 fun _ _ z => RowT.ext t12 e11.feed z, (Paired.len ro2).symm, wok_of ok.ok n6 ro2⟩
        · intro v hv
          simp only [List.mem_cons, List.not_mem_nil, or_false] at hv
          rcases hv with rfl | rfl
          · exact ⟨g1, as1, rfl, (e6.trans (t7.trans e7_12)).sqT e5.feed (.inl (.inl hg1))⟩
          · exact ⟨g2, as2, rfl, (t7.trans e7_12).sqT e6.feed (.inl (.inl hg2))⟩
      obtain ⟨evs, gns, amb⟩ : ∃ evs gns, Amb K C f A R x Gn Ev ds us rs evs gns H12 := ⟨_, _, amb⟩
      have s12 : Same H H12 := sameX (s3.trans s4) nf0 e412
      clear hGn hEv e9_12 e7_12 e412 t12 e11 t10 e410 e9 t8 e48 e47 t7 e6 e5 pw1 pw2 hW1 hW2 hg1 hg2
      -- the turns
      refine ⟨_, rfl, by decide, by decide, ?_⟩
      refine for_range (lo := 0) (n := (8 : Int).toNat) (fun j σ H' => ∃ y9 y10 y11 y12 y13 y14 y15 y16 : Option V, σ = [some (.ref a), some (.int (0 + (i : Int))), some (.ref f), some (.ref A), some (.ref R), some (.ref x), some (.int (ds.length : Int)), some (.ref Gn), some (.ref Ev), y9, y10, y11, y12, y13, y14, y15, y16] ∧ Ext1 f H12 H' ∧ (0 < j → ∃ rv av, y10 = some rv ∧ y11 = some av ∧ RowsV K f rs.length H' rv ∧ AbsV K H' av)) ⟨y9, y10, y11, y12, y13, y14, y15, y16, rfl, Ext1.refl amb.feed, fun h => absurd h (by decide)⟩ ?_ ?_
      · rintro j σ Ha hj ⟨y9, y10, y11, y12, y13, y14, y15, y16, rfl, ea, _⟩
        have ama := amb.ext ea
        -- rows, absent
        refine ⟨_, rfl, _, rfl, f, Ev, evs, rfl, ama.feed, .inl (.inl ama.ev), ama.fE, by rw [ama.evs2]; decide, by rw [ama.evs2]; decide, fun Hb rv eb hrv => ?_⟩
        have amb1 := ama.ext eb
        refine ⟨_, rfl, _, rfl, f, Gn, gns, rfl, amb1.feed, .inl (.inl amb1.gn), amb1.fG, by rw [amb1.gns2]; decide, by rw [amb1.gns2]; decide, fun Hc av ec hav => ⟨_, _, rfl, ?_⟩⟩
        have amc := amb1.ext ec
        obtain ⟨W, vw, ws, rfl, fW, hW, pW, lW, wW⟩ := ((ama.evr rv hrv).ext ama.feed eb).ext amb1.feed ec
        obtain ⟨ab, as, rfl, hab⟩ := (amb1.gnr av hav).ext amb1.feed ec
        have rwc : RwA K W vw ws Hc := ⟨hW, pW⟩
        have w60 : ∀ w ∈ ws, w.length ≤ 60 := fun w hw => by have := (wW w hw).1; omega
        have eac := eb.trans ec
        clear hW pW
        refine ⟨_, rfl, _, rfl, _, rfl, f, x, A, W, ds, us, rs, vw, ws, rfl, amc.bk, ok, .inl (.inl amc.dem), rwc.rat lW, wW, fun Hd sd => ⟨true, rfl, iteF ?_⟩⟩
        have amd := amc.same sd
        have rwd := rwc.same sd
        have habd := sameT sd hab
        -- value
        refine ⟨_, rfl, _, rfl, _, rfl, _, rfl, _, rfl, _, rfl, _, rfl, .ref f, A, R, W, ab, ds, us, rs, vw, ws, as, rfl, .inl (.inl amd.dem), .inl (.inl amd.rd), amd.rds, ok, rwd.rat lW, wW, habd, fun He p1 xs1 vs1 se np1 hp1 pp1 lp1 wp1 => ⟨two, fun L3 nL3 => ?_⟩⟩
        have ame := amd.same se
        have fp1 : p1 ≠ f := amd.feed.ne np1
        have sl : Same He (upd He L3 (.lst [.ref W, .ref p1])) := sameU nL3
        have aml := ame.same sl
        refine ⟨f, L3, _, rfl, aml.feed, .inl (.inl upd_same), ame.feed.ne nL3, (by show 0 < 2; decide), (by show 2 < 1000; decide), fun Hf v ef hv => ?_⟩
        have hvR : RowsV K f rs.length (upd He L3 (.lst [.ref W, .ref p1])) v := by
          simp only [List.mem_cons, List.not_mem_nil, or_false] at hv
          rcases hv with rfl | rfl
          · have := (rwd.same se).same sl
            exact ⟨W, vw, ws, rfl, fW, this.at_, this.rows, lW, wW⟩
          · exact ⟨p1, xs1, vs1, rfl, fp1, sl _ _ hp1, L2.Paired.mapP pp1 fun _ _ z => RowT.same sl z, lp1, wp1⟩
        have hvN := ((hvR.ext aml.feed ef).nice r6)
        have amf := aml.ext ef
        have rwf := ((rwd.same se).same sl).ext fW aml.feed ef
        have habf := ef.sqT aml.feed (sameT sl (sameT se habd))
        have eaf := (eac.trans (Ext1.same amc.feed (sd.trans (se.trans sl)))).trans ef
        clear hvR aml sl ame
        -- the changes
        refine ⟨_, rfl, (by show 5 ≤ sizeLine; decide), fun L4 nL4 => ?_⟩
        have sm4 : Same Hf (upd Hf L4 (.lst [.int 0, .int 0, .int 1, .int 1, .int 2])) := sameU nL4
        refine ⟨f, L4, _, rfl, (amf.same sm4).feed, .inl (.inl upd_same), amf.feed.ne nL4, (by show 0 < 5; decide), (by show 5 < 1000; decide), fun Hg c eg hc => ?_⟩
        obtain ⟨cn, rfl, c0, c2⟩ : ∃ cn : Int, c = .int cn ∧ 0 ≤ cn ∧ cn ≤ 2 := by
          simp only [List.mem_cons, List.not_mem_nil, or_false] at hc
          rcases hc with rfl | rfl | rfl | rfl | rfl <;> exact ⟨_, rfl, by decide, by decide⟩
        have efg := (Ext1.same amf.feed sm4).trans eg
        have amg := amf.ext efg
        have rwg := rwf.ext fW amf.feed efg
        have habg := efg.sqT amf.feed habf
        have hgN := hvN.over (over_ext efg amf.feed fun h => h rfl)
        have eag := eaf.trans efg
        clear hvN rwf habf sm4 eg efg eaf amf
        refine ⟨cn, rfl, by omega, by omega, ?_⟩
        refine for_range (lo := 0) (n := cn.toNat) (fun m σ H' => ∃ (v : V) (y13 y14 y15 y16 : Option V), σ = [some (.ref a), some (.int (0 + (i : Int))), some (.ref f), some (.ref A), some (.ref R), some (.ref x), some (.int (ds.length : Int)), some (.ref Gn), some (.ref Ev), some (.int (0 + (j : Int))), some (.ref W), some (.ref ab), some v, y13, y14, y15, y16] ∧ Ext1 f Hg H' ∧ Nice K (fun p => p ≠ f) 3 4000 H' v) ⟨v, y13, y14, y15, y16, rfl, Ext1.refl amg.feed, hgN⟩ ?_ ?_
        · rintro m σ Hh hm ⟨v, y13, y14, y15, y16, rfl, eh, d, hd, sd'⟩
          have amh := amg.ext eh
          refine ⟨_, rfl, _, rfl, _, rfl, (fun p => p ≠ f), v, d, R, us, rs, (ds.length : Int), rfl, hd, .inl (.inl amh.rd), amh.rds, ok.ok, r6, by omega, by omega, fun Hi si => ⟨_, rfl, ?_⟩⟩
          have hdi := hd.over (over_same si)
          have ehi := eh.trans (Ext1.same amh.feed si)
          cases hb : areRowsD rs d with
          | false => exact iteF ⟨v, _, _, _, _, rfl, ehi, d, hdi, sd'⟩
          | true =>
            refine iteT ?_
            obtain ⟨a', es, xs, vs, ed, rfl, pa, hxa, ees, hU, hRo⟩ := val_rows (x := x) (show Val K (fun p => p ≠ f) Hi x v (some d) from hdi) hb
            have lv := hU.len
            refine ⟨_, rfl, _, rfl, _, rfl, f, a', (ds.length : Int), xs, vs, rfl, (amh.same si).feed, pa, hxa, hU.rows, by omega, wok_of ok.ok n6 hRo, by omega, by omega, fun Hj u ej hu => ?_⟩
            exact ⟨u, _, _, _, _, rfl, ehi.trans ej, hu⟩
        · rintro σ Hh ⟨v, y13, y14, y15, y16, rfl, eh, d, hd, sd'⟩
          have amh := amg.ext eh
          have rwh := rwg.ext fW amg.feed eh
          have habh := eh.sqT amg.feed habg
          have eah := eag.trans eh
          clear rwg habg hgN
          have smr : Sm 3 4000 (dWs ws) := by
            have h1 := show_dWs (b := 6) wW
            exact ⟨h1.1, Nat.le_trans (dep_dWs ws) (by decide), by have := h1.2; omega⟩
          have smd : Sm 4 9000 (.list [d, dWs ws]) := (sm_list (n := 3) (b := 4000) fun z hz => by
            simp only [List.mem_cons, List.not_mem_nil, or_false] at hz
            rcases hz with rfl | rfl
            · exact sd'
            · exact smr).mono (by decide) (by show 3 + 2 * 4002 ≤ 9000; decide)
          obtain ⟨sh, hsh⟩ : ∃ sh, PyData.shown (.list [d, dWs ws]) = sh := ⟨_, rfl⟩
          have dqL : ∀ (Hx : Hp) (Lx : Addr), Same Hh Hx → Hx Lx = none → Dq K (fun p => p ≠ f) (upd Hx Lx (.lst [v, .ref W])) (.ref Lx) (.list [d, dWs ws]) := fun Hx Lx sx nx => by
            have sy : Same Hh (upd Hx Lx (.lst [v, .ref W])) := sx.trans (sameU nx)
            exact .lst ((amh.same sx).feed.ne nx) upd_same (.cons (hd.over (over_same sy)) (.cons (dq_dWs (P := fun p => p ≠ f) fW (rwh.same sy).at_ (rwh.same sy).rows) .nil))
          have lsh : (PyData.shown (.list [d, dWs ws])).length ≤ sizeLine := Nat.le_trans smd.len (szL (by decide))
          refine ⟨_, rfl, _, rfl, two, fun L5 nL5 => ⟨(fun p => p ≠ f), _, .list [d, dWs ws], rfl, dqL Hh L5 (Same.refl Hh) nL5, smd.can, Nat.le_trans smd.dep (by decide), lsh, ?_⟩⟩
          rw [hsh]
          have sA : Same Hh (upd Hh L5 (.lst [v, .ref W])) := sameU nL5
          generalize upd Hh L5 (.lst [v, .ref W]) = Hi at *
          -- is_rows
          obtain ⟨b, hb⟩ : ∃ b, areRowsD rs d = b := ⟨_, rfl⟩
          refine ⟨_, rfl, _, rfl, (fun p => p ≠ f), f, x, v, some d, ds, us, rs, rfl, (amh.same sA).bk, ok, hd.over (over_same sA), fun Hj sj => ?_⟩
          rw [show areV rs (some d) = b from hb]
          have sB := sA.trans sj
          refine ⟨_, .bool b, rfl, .bl b, (show_bool b).1, Nat.zero_le _, Nat.le_trans (show_bool b).2 s5, ?_⟩
          refine ⟨_, rfl, _, rfl, _, rfl, (fun p => p ≠ f), v, d, R, us, rs, (ds.length : Int), rfl, hd.over (over_same sB), .inl (.inl (amh.same sB).rd), (amh.same sB).rds, ok.ok, r6, by omega, by omega, fun Hk sk => ?_⟩
          rw [hb]
          have sC := sB.trans sk
          refine ⟨_, .bool b, rfl, .bl b, (show_bool b).1, Nat.zero_le _, Nat.le_trans (show_bool b).2 s5, rfl, _, rfl, ?_⟩
          show (if (!decide (V.str (PyData.shown (.bool b)) = V.str (PyData.shown (.bool b)))) = true then _ else _)
          refine iteNS rfl ?_
          -- due
          have amk := amh.same sC
          refine ⟨_, rfl, _, rfl, _, rfl, _, rfl, _, rfl, (fun p => p ≠ f), A, R, W, ab, v, d, ds, us, rs, vw, ws, as, rfl, .inl (.inl amk.dem), .inl (.inl amk.rd), amk.rds, ok, (rwh.same sC).rat lW, w60, sameT sC habh, hd.over (over_same sC), fun Hm sm => ?_⟩
          obtain ⟨e, he⟩ : ∃ e, extV ds rs ws as (some d) = e := ⟨_, rfl⟩
          rw [he]
          have sD := sC.trans sm
          -- extends
          refine ⟨_, rfl, _, rfl, _, rfl, _, rfl, (fun p => p ≠ f), f, x, W, ab, v, some d, ds, us, rs, vw, ws, as, rfl, (amh.same sD).bk, ok, (rwh.same sD).rat lW, w60, sameT sD habh, hd.over (over_same sD), fun Hn sn => ?_⟩
          rw [he]
          have sE := sD.trans sn
          refine ⟨_, .bool e, rfl, .bl e, (show_bool e).1, Nat.zero_le _, Nat.le_trans (show_bool e).2 s5, ?_⟩
          refine ⟨_, rfl, _, .bool e, rfl, .bl e, (show_bool e).1, Nat.zero_le _, Nat.le_trans (show_bool e).2 s5, rfl, _, rfl, ?_⟩
          show (if (!decide (V.str (PyData.shown (.bool e)) = V.str (PyData.shown (.bool e)))) = true then _ else _)
          refine iteNS rfl ?_
          refine ⟨_, rfl, _, rfl, two, fun L6 nL6 => ⟨(fun p => p ≠ f), _, .list [d, dWs ws], rfl, dqL Hn L6 sE nL6, smd.can, Nat.le_trans smd.dep (by decide), lsh, ?_⟩⟩
          rw [hsh]
          refine ⟨_, rfl, rfl, _, rfl, ?_⟩
          show (if (!decide (V.str sh = V.str sh)) = true then _ else _)
          refine iteNS rfl ?_
          have sF : Same Hh (upd Hn L6 (.lst [v, .ref W])) := sE.trans (sameU nL6)
          have rwF := rwh.same sF
          exact ⟨_, _, _, _, _, _, _, _, rfl, ea.trans (eah.trans (Ext1.same amh.feed sF)), fun _ => ⟨.ref W, .ref ab, rfl, rfl, ⟨W, vw, ws, rfl, fW, rwF.at_, rwF.rows, lW, wW⟩, ⟨ab, as, rfl, sameT sF habh⟩⟩⟩
      · rintro σ Ha ⟨y9, y10, y11, y12, y13, y14, y15, y16, rfl, ea, hra⟩
        obtain ⟨rv, av, rfl, rfl, ⟨W, vw, ws, rfl, fW, hW, pW, lW, wW⟩, ⟨ab, as, rfl, hab⟩⟩ := hra (by decide)
        have ama := amb.ext ea
        have rwa : RwA K W vw ws Ha := ⟨hW, pW⟩
        have w60 : ∀ w ∈ ws, w.length ≤ 60 := fun w hw => by have := (wW w hw).1; omega
        have sHa : Same H Ha := sameX s12 nf0 ea
        clear hra hW pW
        -- the odd ones
        refine ⟨_, rfl, 10, 20, rfl, rfl, ⟨by decide, by decide, by decide⟩, (by show 4 ≤ sizeLine; decide), fun Tt nTt => ⟨Tt, rfl, ⟨_, .inl (.inl upd_same)⟩, ?_⟩⟩
        refine for_tup (K := K) (a := Tt) (xs := [V.ref x, .int 0, .bl true, .int ((10 : Int) ^ (20 : Int).toNat)]) (fun m σ H' => ∃ z16 : Option V, σ = [some (.ref a), some (.int (0 + (i : Int))), some (.ref f), some (.ref A), some (.ref R), some (.ref x), some (.int (ds.length : Int)), some (.ref Gn), some (.ref Ev), y9, some (.ref W), some (.ref ab), y12, y13, y14, y15, z16] ∧ Same Ha H' ∧ H' Tt = some (.tup [V.ref x, .int 0, .bl true, .int ((10 : Int) ^ (20 : Int).toNat)])) ⟨y16, rfl, sameU nTt, upd_same⟩ (fun m σ H' _ ⟨_, _, _, e⟩ => .inl (.inl e)) ?_ ?_
        · rintro m v σ Hc hv ⟨z16, rfl, sac, hTt⟩
          have amc := ama.same sac
          have hvv : ∃ d : Option PyData, (∀ Hx, Val K (fun _ => True) Hx x v d) ∧ areV rs d = false := by
            have hm := List.mem_of_getElem? hv
            simp only [List.mem_cons, List.not_mem_nil, or_false] at hm
            rcases hm with rfl | rfl | rfl | rfl
            · exact ⟨none, fun _ => rfl, rfl⟩
            · exact ⟨some (.int 0), fun _ => .int _, rfl⟩
            · exact ⟨some (.bool true), fun _ => .bl _, rfl⟩
            · exact ⟨some (.int _), fun _ => .int _, rfl⟩
          obtain ⟨d, hd, ha⟩ := hvv
          have hx : extV ds rs ws as d = false := by unfold extV; rw [ha]; rfl
          refine ⟨_, rfl, _, rfl, (fun _ => True), f, x, v, d, ds, us, rs, rfl, amc.bk, ok, hd _, fun Hd sd => ?_⟩
          rw [ha]
          refine ⟨_, _, rfl, rfl, _, rfl, iteF ?_⟩
          have sad := sac.trans sd
          refine ⟨_, rfl, _, rfl, _, rfl, _, rfl, (fun _ => True), f, x, W, ab, v, d, ds, us, rs, vw, ws, as, rfl, (ama.same sad).bk, ok, (rwa.same sad).rat lW, w60, sameT sad hab, hd _, fun He se => ?_⟩
          rw [hx]
          refine ⟨_, _, rfl, rfl, _, rfl, iteF ?_⟩
          exact ⟨_, rfl, sad.trans se, se _ _ (sd _ _ hTt)⟩
        · rintro σ Hc ⟨z16, rfl, sac, hTt⟩
          have amc := ama.same sac
          obtain ⟨dxb, Ab, Rb, hxb, _⟩ := id amc.bk
          refine ⟨_, rfl, _, rfl, _, rfl, fun x' dx' nx' ndx' nex' => init_of (K := K) (rs := rs) (f := f) amc.feed nx' ndx' nex' (.inl (.inl amc.dem)) (.inl (.inl amc.rd)) amc.rds ok fun Hd sd bd => ⟨rfl, ?_⟩⟩
          obtain ⟨dx2, A2, R2, hx2, _⟩ := id bd
          refine ⟨x, dxb, _, .ref C, rfl, sd _ _ hxb, .base (.ins hx2 T.ic.cl T.ic.ha T.ic.hn T.ic.htk T.ic.hm), T.sub, f, x, .ref x', ds, us, rs, rfl, amc.bk.same sd, .inl ⟨f, x', ds, us, rs, rfl, bd, _, rfl, ?_⟩⟩
          rw [decide_eq_true rfl, decide_eq_true rfl]
          refine ⟨_, rfl, ?_⟩
          show (if (!true) = true then _ else _)
          exact iteF ⟨_, _, _, _, _, _, _, _, _, _, _, _, _, _, _, _, rfl, sHa.trans (sac.trans sd)⟩
    · rintro σ H1 ⟨y1, y2, y3, y4, y5, y6, y7, y8, y9, y10, y11, y12, y13, y14, y15, y16, rfl, s1⟩
      exact q _
end
end Ew
namespace Ew
open PySem PySem.Spec PyProof.Rows L2
theorem notF {K : PySem.W.Frag} {C : Addr} {t : Value} (h : PySem.W.subIn K t (.ref C) = some false) : PySem.W.notFirst K C t = true := by
  unfold PySem.W.notFirst
  rw [h]
  simp
set_option maxHeartbeats 0 in
theorem all_mk {l : PySem.W.OpenLaw} {w : World} {K : PySem.W.Frag} {h : Heap} {mg : Str → Option Value} {fa : Addr} (X : K.In h) (G : h.Ns mainGlobals mg) (hfa : mg "law" = some (.ref fa))
    {f1 : Addr} {od1 an1 : Option Addr} {sl1 : Array (Option Value)} {oc1 kV1 dc1 pm1 cd1 ct1 : Value}
    {f2 : Addr} {od2 an2 : Option Addr} {sl2 : Array (Option Value)} {oc2 kV2 dc2 pm2 cd2 ct2 : Value}
    {f3 : Addr} {od3 an3 : Option Addr} {sl3 : Array (Option Value)} {oc3 kV3 dc3 pm3 cd3 ct3 : Value}
    {f4 : Addr} {od4 an4 : Option Addr} {sl4 : Array (Option Value)} {oc4 kV4 dc4 pm4 cd4 ct4 : Value}
    {f5 : Addr} {od5 an5 : Option Addr} {sl5 : Array (Option Value)} {oc5 kV5 dc5 pm5 cd5 ct5 : Value}
    {f6 : Addr} {od6 an6 : Option Addr} {sl6 : Array (Option Value)} {oc6 kV6 dc6 pm6 cd6 ct6 : Value}
    {f7 : Addr} {od7 an7 : Option Addr} {sl7 : Array (Option Value)} {oc7 kV7 dc7 pm7 cd7 ct7 : Value}
    {f8 : Addr} {od8 an8 : Option Addr} {sl8 : Array (Option Value)} {oc8 kV8 dc8 pm8 cd8 ct8 : Value}
    {f9 : Addr} {od9 an9 : Option Addr} {sl9 : Array (Option Value)} {oc9 kV9 dc9 pm9 cd9 ct9 : Value}
    {f10 : Addr} {od10 an10 : Option Addr} {sl10 : Array (Option Value)} {oc10 kV10 dc10 pm10 cd10 ct10 : Value}
    {f11 : Addr} {od11 an11 : Option Addr} {sl11 : Array (Option Value)} {oc11 kV11 dc11 pm11 cd11 ct11 : Value}
    {f12 : Addr} {od12 an12 : Option Addr} {sl12 : Array (Option Value)} {oc12 kV12 dc12 pm12 cd12 ct12 : Value}
    {f13 : Addr} {od13 an13 : Option Addr} {sl13 : Array (Option Value)} {oc13 kV13 dc13 pm13 cd13 ct13 : Value}
    {f14 : Addr} {od14 an14 : Option Addr} {sl14 : Array (Option Value)} {oc14 kV14 dc14 pm14 cd14 ct14 : Value}
    {f15 : Addr} {od15 an15 : Option Addr} {sl15 : Array (Option Value)} {oc15 kV15 dc15 pm15 cd15 ct15 : Value}
    {f16 : Addr} {od16 an16 : Option Addr} {sl16 : Array (Option Value)} {oc16 kV16 dc16 pm16 cd16 ct16 : Value}
    {f17 : Addr} {od17 an17 : Option Addr} {sl17 : Array (Option Value)} {oc17 kV17 dc17 pm17 cd17 ct17 : Value}
    {f18 : Addr} {od18 an18 : Option Addr} {sl18 : Array (Option Value)} {oc18 kV18 dc18 pm18 cd18 ct18 : Value}
    {f19 : Addr} {od19 an19 : Option Addr} {sl19 : Array (Option Value)} {oc19 kV19 dc19 pm19 cd19 ct19 : Value}
    {f20 : Addr} {od20 an20 : Option Addr} {sl20 : Array (Option Value)} {oc20 kV20 dc20 pm20 cd20 ct20 : Value}
    {f21 : Addr} {od21 an21 : Option Addr} {sl21 : Array (Option Value)} {oc21 kV21 dc21 pm21 cd21 ct21 : Value}
    {f22 : Addr} {od22 an22 : Option Addr} {sl22 : Array (Option Value)} {oc22 kV22 dc22 pm22 cd22 ct22 : Value}
    {f23 : Addr} {od23 an23 : Option Addr} {sl23 : Array (Option Value)} {oc23 kV23 dc23 pm23 cd23 ct23 : Value}
    {f24 : Addr} {od24 an24 : Option Addr} {sl24 : Array (Option Value)} {oc24 kV24 dc24 pm24 cd24 ct24 : Value}
    {f25 : Addr} {od25 an25 : Option Addr} {sl25 : Array (Option Value)} {oc25 kV25 dc25 pm25 cd25 ct25 : Value}
    {f26 : Addr} {od26 an26 : Option Addr} {sl26 : Array (Option Value)} {oc26 kV26 dc26 pm26 cd26 ct26 : Value}
    {f27 : Addr} {od27 an27 : Option Addr} {sl27 : Array (Option Value)} {oc27 kV27 dc27 pm27 cd27 ct27 : Value}
    {f28 : Addr} {od28 an28 : Option Addr} {sl28 : Array (Option Value)} {oc28 kV28 dc28 pm28 cd28 ct28 : Value}
    {f29 : Addr} {od29 an29 : Option Addr} {sl29 : Array (Option Value)} {oc29 kV29 dc29 pm29 cd29 ct29 : Value}
    {f30 : Addr} {od30 an30 : Option Addr} {sl30 : Array (Option Value)} {oc30 kV30 dc30 pm30 cd30 ct30 : Value}
    {f31 : Addr} {od31 an31 : Option Addr} {sl31 : Array (Option Value)} {oc31 kV31 dc31 pm31 cd31 ct31 : Value}
    {C : Addr}
    {fm1 : Addr} {odm1 anm1 : Option Addr} {slm1 : Array (Option Value)} {ocm1 kVm1 dcm1 pmm1 cdm1 ctm1 : Value}
    {fm2 : Addr} {odm2 anm2 : Option Addr} {slm2 : Array (Option Value)} {ocm2 kVm2 dcm2 pmm2 cdm2 ctm2 : Value}
    {fm3 : Addr} {odm3 anm3 : Option Addr} {slm3 : Array (Option Value)} {ocm3 kVm3 dcm3 pmm3 cdm3 ctm3 : Value}
    {fm4 : Addr} {odm4 anm4 : Option Addr} {slm4 : Array (Option Value)} {ocm4 kVm4 dcm4 pmm4 cdm4 ctm4 : Value}
    {fm5 : Addr} {odm5 anm5 : Option Addr} {slm5 : Array (Option Value)} {ocm5 kVm5 dcm5 pmm5 cdm5 ctm5 : Value}
    {g0 g1 g2 : Tok}
    (a1 : PySem.W.nsIn K mainGlobals "is_integer" = some (some (.ref f1)))
    (l1 : K.lookup f1 = some ⟨oc1, od1, .func (PySem.W.fnOf "is_integer" "is_integer" (defArgs sIsInt) (defBody sIsInt) (defScope sIsInt) .none kV1 dc1 pm1 an1 cd1 ct1), sl1⟩)
    (c1 : PySem.W.codeIn K cd1 "is_integer" = true)
    (k1 : PySem.W.keepIn K (.ref f1) = true)
    (a2 : PySem.W.nsIn K mainGlobals "is_amount" = some (some (.ref f2)))
    (l2 : K.lookup f2 = some ⟨oc2, od2, .func (PySem.W.fnOf "is_amount" "is_amount" (defArgs sIsAmt) (defBody sIsAmt) (defScope sIsAmt) .none kV2 dc2 pm2 an2 cd2 ct2), sl2⟩)
    (c2 : PySem.W.codeIn K cd2 "is_amount" = true)
    (k2 : PySem.W.keepIn K (.ref f2) = true)
    (a3 : PySem.W.nsIn K mainGlobals "is_ascending" = some (some (.ref f3)))
    (l3 : K.lookup f3 = some ⟨oc3, od3, .func (PySem.W.fnOf "is_ascending" "is_ascending" (defArgs sIsAsc) (defBody sIsAsc) (defScope sIsAsc) .none kV3 dc3 pm3 an3 cd3 ct3), sl3⟩)
    (c3 : PySem.W.codeIn K cd3 "is_ascending" = true)
    (k3 : PySem.W.keepIn K (.ref f3) = true)
    (a4 : PySem.W.nsIn K mainGlobals "are_demands" = some (some (.ref f4)))
    (l4 : K.lookup f4 = some ⟨oc4, od4, .func (PySem.W.fnOf "are_demands" "are_demands" (defArgs sAreDem) (defBody sAreDem) (defScope sAreDem) .none kV4 dc4 pm4 an4 cd4 ct4), sl4⟩)
    (c4 : PySem.W.codeIn K cd4 "are_demands" = true)
    (k4 : PySem.W.keepIn K (.ref f4) = true)
    (a5 : PySem.W.nsIn K mainGlobals "is_reader" = some (some (.ref f5)))
    (l5 : K.lookup f5 = some ⟨oc5, od5, .func (PySem.W.fnOf "is_reader" "is_reader" (defArgs sIsRd) (defBody sIsRd) (defScope sIsRd) .none kV5 dc5 pm5 an5 cd5 ct5), sl5⟩)
    (c5 : PySem.W.codeIn K cd5 "is_reader" = true)
    (k5 : PySem.W.keepIn K (.ref f5) = true)
    (a6 : PySem.W.nsIn K mainGlobals "_law_feed" = some (some (.ref f6)))
    (l6 : K.lookup f6 = some ⟨oc6, od6, .func (PySem.W.fnOf "_law_feed" "_law_feed" (defArgs sFeed) (defBody sFeed) (defScope sFeed) .none kV6 dc6 pm6 an6 cd6 ct6), sl6⟩)
    (c6 : PySem.W.codeIn K cd6 "_law_feed" = true)
    (k6 : PySem.W.keepIn K (.ref f6) = true)
    (a7 : PySem.W.nsIn K mainGlobals "_law_take" = some (some (.ref f7)))
    (l7 : K.lookup f7 = some ⟨oc7, od7, .func (PySem.W.fnOf "_law_take" "_law_take" (defArgs sTake) (defBody sTake) (defScope sTake) .none kV7 dc7 pm7 an7 cd7 ct7), sl7⟩)
    (c7 : PySem.W.codeIn K cd7 "_law_take" = true)
    (k7 : PySem.W.keepIn K (.ref f7) = true)
    (a8 : PySem.W.nsIn K mainGlobals "_law_pick" = some (some (.ref f8)))
    (l8 : K.lookup f8 = some ⟨oc8, od8, .func (PySem.W.fnOf "_law_pick" "_law_pick" (defArgs sPick) (defBody sPick) (defScope sPick) .none kV8 dc8 pm8 an8 cd8 ct8), sl8⟩)
    (c8 : PySem.W.codeIn K cd8 "_law_pick" = true)
    (k8 : PySem.W.keepIn K (.ref f8) = true)
    (a9 : PySem.W.nsIn K mainGlobals "_law_row" = some (some (.ref f9)))
    (l9 : K.lookup f9 = some ⟨oc9, od9, .func (PySem.W.fnOf "_law_row" "_law_row" (defArgs sRow) (defBody sRow) (defScope sRow) .none kV9 dc9 pm9 an9 cd9 ct9), sl9⟩)
    (c9 : PySem.W.codeIn K cd9 "_law_row" = true)
    (k9 : PySem.W.keepIn K (.ref f9) = true)
    (a10 : PySem.W.nsIn K mainGlobals "_law_rows" = some (some (.ref f10)))
    (l10 : K.lookup f10 = some ⟨oc10, od10, .func (PySem.W.fnOf "_law_rows" "_law_rows" (defArgs sRows) (defBody sRows) (defScope sRows) .none kV10 dc10 pm10 an10 cd10 ct10), sl10⟩)
    (c10 : PySem.W.codeIn K cd10 "_law_rows" = true)
    (k10 : PySem.W.keepIn K (.ref f10) = true)
    (a11 : PySem.W.nsIn K mainGlobals "_law_times" = some (some (.ref f11)))
    (l11 : K.lookup f11 = some ⟨oc11, od11, .func (PySem.W.fnOf "_law_times" "_law_times" (defArgs sTimes) (defBody sTimes) (defScope sTimes) .none kV11 dc11 pm11 an11 cd11 ct11), sl11⟩)
    (c11 : PySem.W.codeIn K cd11 "_law_times" = true)
    (k11 : PySem.W.keepIn K (.ref f11) = true)
    (a12 : PySem.W.nsIn K mainGlobals "_law_book" = some (some (.ref f12)))
    (l12 : K.lookup f12 = some ⟨oc12, od12, .func (PySem.W.fnOf "_law_book" "_law_book" (defArgs sBook) (defBody sBook) (defScope sBook) .none kV12 dc12 pm12 an12 cd12 ct12), sl12⟩)
    (c12 : PySem.W.codeIn K cd12 "_law_book" = true)
    (k12 : PySem.W.keepIn K (.ref f12) = true)
    (a13 : PySem.W.nsIn K mainGlobals "is_row" = some (some (.ref f13)))
    (l13 : K.lookup f13 = some ⟨oc13, od13, .func (PySem.W.fnOf "is_row" "is_row" (defArgs sPkRow) (defBody sPkRow) (defScope sPkRow) .none kV13 dc13 pm13 an13 cd13 ct13), sl13⟩)
    (c13 : PySem.W.codeIn K cd13 "is_row" = true)
    (k13 : PySem.W.keepIn K (.ref f13) = true)
    (a14 : PySem.W.nsIn K mainGlobals "is_rows" = some (some (.ref f14)))
    (l14 : K.lookup f14 = some ⟨oc14, od14, .func (PySem.W.fnOf "is_rows" "is_rows" (defArgs sPkRows) (defBody sPkRows) (defScope sPkRows) .none kV14 dc14 pm14 an14 cd14 ct14), sl14⟩)
    (c14 : PySem.W.codeIn K cd14 "is_rows" = true)
    (k14 : PySem.W.keepIn K (.ref f14) = true)
    (a15 : PySem.W.nsIn K mainGlobals "present_readers" = some (some (.ref f15)))
    (l15 : K.lookup f15 = some ⟨oc15, od15, .func (PySem.W.fnOf "present_readers" "present_readers" (defArgs sPkPrs) (defBody sPkPrs) (defScope sPkPrs) .none kV15 dc15 pm15 an15 cd15 ct15), sl15⟩)
    (c15 : PySem.W.codeIn K cd15 "present_readers" = true)
    (k15 : PySem.W.keepIn K (.ref f15) = true)
    (a16 : PySem.W.nsIn K mainGlobals "times_read" = some (some (.ref f16)))
    (l16 : K.lookup f16 = some ⟨oc16, od16, .func (PySem.W.fnOf "times_read" "times_read" (defArgs sPkTimes) (defBody sPkTimes) (defScope sPkTimes) .none kV16 dc16 pm16 an16 cd16 ct16), sl16⟩)
    (c16 : PySem.W.codeIn K cd16 "times_read" = true)
    (k16 : PySem.W.keepIn K (.ref f16) = true)
    (a17 : PySem.W.nsIn K mainGlobals "is_good" = some (some (.ref f17)))
    (l17 : K.lookup f17 = some ⟨oc17, od17, .func (PySem.W.fnOf "is_good" "is_good" (defArgs sPkGood) (defBody sPkGood) (defScope sPkGood) .none kV17 dc17 pm17 an17 cd17 ct17), sl17⟩)
    (c17 : PySem.W.codeIn K cd17 "is_good" = true)
    (k17 : PySem.W.keepIn K (.ref f17) = true)
    (a18 : PySem.W.nsIn K mainGlobals "is_enough" = some (some (.ref f18)))
    (l18 : K.lookup f18 = some ⟨oc18, od18, .func (PySem.W.fnOf "is_enough" "is_enough" (defArgs sPkEnough) (defBody sPkEnough) (defScope sPkEnough) .none kV18 dc18 pm18 an18 cd18 ct18), sl18⟩)
    (c18 : PySem.W.codeIn K cd18 "is_enough" = true)
    (k18 : PySem.W.keepIn K (.ref f18) = true)
    (a19 : PySem.W.nsIn K mainGlobals "contains" = some (some (.ref f19)))
    (l19 : K.lookup f19 = some ⟨oc19, od19, .func (PySem.W.fnOf "contains" "contains" (defArgs sPkCont) (defBody sPkCont) (defScope sPkCont) .none kV19 dc19 pm19 an19 cd19 ct19), sl19⟩)
    (c19 : PySem.W.codeIn K cd19 "contains" = true)
    (k19 : PySem.W.keepIn K (.ref f19) = true)
    (a20 : PySem.W.nsIn K mainGlobals "extends" = some (some (.ref f20)))
    (l20 : K.lookup f20 = some ⟨oc20, od20, .func (PySem.W.fnOf "extends" "extends" (defArgs sPkExt) (defBody sPkExt) (defScope sPkExt) .none kV20 dc20 pm20 an20 cd20 ct20), sl20⟩)
    (c20 : PySem.W.codeIn K cd20 "extends" = true)
    (k20 : PySem.W.keepIn K (.ref f20) = true)
    (a21 : PySem.W.nsIn K mainGlobals "_law_gone" = some (some (.ref f21)))
    (l21 : K.lookup f21 = some ⟨oc21, od21, .func (PySem.W.fnOf "_law_gone" "_law_gone" (defArgs sGone) (defBody sGone) (defScope sGone) .none kV21 dc21 pm21 an21 cd21 ct21), sl21⟩)
    (c21 : PySem.W.codeIn K cd21 "_law_gone" = true)
    (k21 : PySem.W.keepIn K (.ref f21) = true)
    (a22 : PySem.W.nsIn K mainGlobals "_law_present" = some (some (.ref f22)))
    (l22 : K.lookup f22 = some ⟨oc22, od22, .func (PySem.W.fnOf "_law_present" "_law_present" (defArgs sPrs) (defBody sPrs) (defScope sPrs) .none kV22 dc22 pm22 an22 cd22 ct22), sl22⟩)
    (c22 : PySem.W.codeIn K cd22 "_law_present" = true)
    (k22 : PySem.W.keepIn K (.ref f22) = true)
    (a23 : PySem.W.nsIn K mainGlobals "_law_is_row" = some (some (.ref f23)))
    (l23 : K.lookup f23 = some ⟨oc23, od23, .func (PySem.W.fnOf "_law_is_row" "_law_is_row" (defArgs sLRow) (defBody sLRow) (defScope sLRow) .none kV23 dc23 pm23 an23 cd23 ct23), sl23⟩)
    (c23 : PySem.W.codeIn K cd23 "_law_is_row" = true)
    (k23 : PySem.W.keepIn K (.ref f23) = true)
    (a24 : PySem.W.nsIn K mainGlobals "_law_are_rows" = some (some (.ref f24)))
    (l24 : K.lookup f24 = some ⟨oc24, od24, .func (PySem.W.fnOf "_law_are_rows" "_law_are_rows" (defArgs sLRows) (defBody sLRows) (defScope sLRows) .none kV24 dc24 pm24 an24 cd24 ct24), sl24⟩)
    (c24 : PySem.W.codeIn K cd24 "_law_are_rows" = true)
    (k24 : PySem.W.keepIn K (.ref f24) = true)
    (a25 : PySem.W.nsIn K mainGlobals "_law_kept_times" = some (some (.ref f25)))
    (l25 : K.lookup f25 = some ⟨oc25, od25, .func (PySem.W.fnOf "_law_kept_times" "_law_kept_times" (defArgs sKept) (defBody sKept) (defScope sKept) .none kV25 dc25 pm25 an25 cd25 ct25), sl25⟩)
    (c25 : PySem.W.codeIn K cd25 "_law_kept_times" = true)
    (k25 : PySem.W.keepIn K (.ref f25) = true)
    (a26 : PySem.W.nsIn K mainGlobals "_law_extends" = some (some (.ref f26)))
    (l26 : K.lookup f26 = some ⟨oc26, od26, .func (PySem.W.fnOf "_law_extends" "_law_extends" (defArgs sLExt) (defBody sLExt) (defScope sLExt) .none kV26 dc26 pm26 an26 cd26 ct26), sl26⟩)
    (c26 : PySem.W.codeIn K cd26 "_law_extends" = true)
    (k26 : PySem.W.keepIn K (.ref f26) = true)
    (a27 : PySem.W.nsIn K mainGlobals "_law_near_row" = some (some (.ref f27)))
    (l27 : K.lookup f27 = some ⟨oc27, od27, .func (PySem.W.fnOf "_law_near_row" "_law_near_row" (defArgs sNearRow) (defBody sNearRow) (defScope sNearRow) .none kV27 dc27 pm27 an27 cd27 ct27), sl27⟩)
    (c27 : PySem.W.codeIn K cd27 "_law_near_row" = true)
    (k27 : PySem.W.keepIn K (.ref f27) = true)
    (a28 : PySem.W.nsIn K mainGlobals "_law_near" = some (some (.ref f28)))
    (l28 : K.lookup f28 = some ⟨oc28, od28, .func (PySem.W.fnOf "_law_near" "_law_near" (defArgs sNear) (defBody sNear) (defScope sNear) .none kV28 dc28 pm28 an28 cd28 ct28), sl28⟩)
    (c28 : PySem.W.codeIn K cd28 "_law_near" = true)
    (k28 : PySem.W.keepIn K (.ref f28) = true)
    (a29 : PySem.W.nsIn K mainGlobals "_law_more" = some (some (.ref f29)))
    (l29 : K.lookup f29 = some ⟨oc29, od29, .func (PySem.W.fnOf "_law_more" "_law_more" (defArgs sMore) (defBody sMore) (defScope sMore) .none kV29 dc29 pm29 an29 cd29 ct29), sl29⟩)
    (c29 : PySem.W.codeIn K cd29 "_law_more" = true)
    (k29 : PySem.W.keepIn K (.ref f29) = true)
    (a30 : PySem.W.nsIn K mainGlobals "_law_times_right" = some (some (.ref f30)))
    (l30 : K.lookup f30 = some ⟨oc30, od30, .func (PySem.W.fnOf "_law_times_right" "_law_times_right" (defArgs sTR) (defBody sTR) (defScope sTR) .none kV30 dc30 pm30 an30 cd30 ct30), sl30⟩)
    (c30 : PySem.W.codeIn K cd30 "_law_times_right" = true)
    (k30 : PySem.W.keepIn K (.ref f30) = true)
    (a31 : PySem.W.nsIn K mainGlobals "law" = some (some (.ref f31)))
    (l31 : K.lookup f31 = some ⟨oc31, od31, .func (PySem.W.fnOf "law" "law" (defArgs sLaw) (defBody sLaw) (defScope sLaw) .none kV31 dc31 pm31 an31 cd31 ct31), sl31⟩)
    (c31 : PySem.W.codeIn K cd31 "law" = true)
    (k31 : PySem.W.keepIn K (.ref f31) = true)
    (aC : PySem.W.nsIn K mainGlobals "Book" = some (some (.ref C)))
    (am1 : PySem.W.findIn K (.ref C) "__init__" = some (some (.ref fm1)))
    (im1 : PySem.W.isFn K (.ref fm1) = true)
    (lm1 : K.lookup fm1 = some ⟨ocm1, odm1, .func (PySem.W.fnOf "__init__" "Book.__init__" (defArgs sBkInit) (defBody sBkInit) (defScope sBkInit) .none kVm1 dcm1 pmm1 anm1 cdm1 ctm1), slm1⟩)
    (cm1 : PySem.W.codeIn K cdm1 "Book.__init__" = true)
    (km1 : PySem.W.keepIn K (.ref fm1) = true)
    (am2 : PySem.W.findIn K (.ref C) "demands" = some (some (.ref fm2)))
    (im2 : PySem.W.isFn K (.ref fm2) = true)
    (lm2 : K.lookup fm2 = some ⟨ocm2, odm2, .func (PySem.W.fnOf "demands" "Book.demands" (defArgs sBkDem) (defBody sBkDem) (defScope sBkDem) .none kVm2 dcm2 pmm2 anm2 cdm2 ctm2), slm2⟩)
    (cm2 : PySem.W.codeIn K cdm2 "Book.demands" = true)
    (km2 : PySem.W.keepIn K (.ref fm2) = true)
    (am3 : PySem.W.findIn K (.ref C) "readers" = some (some (.ref fm3)))
    (im3 : PySem.W.isFn K (.ref fm3) = true)
    (lm3 : K.lookup fm3 = some ⟨ocm3, odm3, .func (PySem.W.fnOf "readers" "Book.readers" (defArgs sBkRd) (defBody sBkRd) (defScope sBkRd) .none kVm3 dcm3 pmm3 anm3 cdm3 ctm3), slm3⟩)
    (cm3 : PySem.W.codeIn K cdm3 "Book.readers" = true)
    (km3 : PySem.W.keepIn K (.ref fm3) = true)
    (am4 : PySem.W.findIn K (.ref C) "__eq__" = some (some (.ref fm4)))
    (im4 : PySem.W.isFn K (.ref fm4) = true)
    (lm4 : K.lookup fm4 = some ⟨ocm4, odm4, .func (PySem.W.fnOf "__eq__" "Book.__eq__" (defArgs sBkEq) (defBody sBkEq) (defScope sBkEq) .none kVm4 dcm4 pmm4 anm4 cdm4 ctm4), slm4⟩)
    (cm4 : PySem.W.codeIn K cdm4 "Book.__eq__" = true)
    (km4 : PySem.W.keepIn K (.ref fm4) = true)
    (am5 : PySem.W.findIn K (.ref C) "__len__" = some (some (.ref fm5)))
    (im5 : PySem.W.isFn K (.ref fm5) = true)
    (lm5 : K.lookup fm5 = some ⟨ocm5, odm5, .func (PySem.W.fnOf "__len__" "Book.__len__" (defArgs sBkLen) (defBody sBkLen) (defScope sBkLen) .none kVm5 dcm5 pmm5 anm5 cdm5 ctm5), slm5⟩)
    (cm5 : PySem.W.codeIn K cdm5 "Book.__len__" = true)
    (km5 : PySem.W.keepIn K (.ref fm5) = true)
    (pg : PySem.W.plainGet K C Str.empty = true)
    (hd : PySem.W.hasDictIn K C = true)
    (po : PySem.W.plainOver K C = true)
    (sa : PySem.W.findIn K (.ref C) "__setattr__" = some (some (.builtin "object.__setattr__")))
    (mk : PySem.W.makesIn K C = true)
    (kc : PySem.W.keepIn K (.ref C) = true)
    (nD : PySem.W.findIn K (.ref C) "_demands" = some none)
    (nR : PySem.W.findIn K (.ref C) "_readers" = some none)
    (ha : PySem.W.findIn K (.ref C) "__class__" = some (some (.builtin "object.__class__")))
    (hn : PySem.W.specialIn K (.builtin "object.__class__") "__get__" = some (some (.builtin "getset_descriptor.__get__")))
    (htk : PySem.W.takesIn K (.builtin "object.__class__") = some true)
    (hm : PySem.W.mroIn K C (.type "object") = some true)
    (me : PySem.W.kitOne K (.ref C) (.ref C) = some true)
    (t0 : PySem.W.kitOne K (.type "NoneType") (.ref C) = some false)
    (u0 : PySem.W.subIn K (.type "NoneType") (.ref C) = some false)
    (t1 : PySem.W.kitOne K (.type "bool") (.ref C) = some false)
    (u1 : PySem.W.subIn K (.type "bool") (.ref C) = some false)
    (t2 : PySem.W.kitOne K (.type "int") (.ref C) = some false)
    (u2 : PySem.W.subIn K (.type "int") (.ref C) = some false)
    (t3 : PySem.W.kitOne K (.type "str") (.ref C) = some false)
    (u3 : PySem.W.subIn K (.type "str") (.ref C) = some false)
    (t4 : PySem.W.kitOne K (.type "list") (.ref C) = some false)
    (u4 : PySem.W.subIn K (.type "list") (.ref C) = some false)
    (t5 : PySem.W.kitOne K (.type "tuple") (.ref C) = some false)
    (u5 : PySem.W.subIn K (.type "tuple") (.ref C) = some false)
    (t6 : PySem.W.kitOne K (.type "dict") (.ref C) = some false)
    (u6 : PySem.W.subIn K (.type "dict") (.ref C) = some false)
    (xset : PySem.W.nsIn K mainGlobals "set" = some none)
    (kl : PySem.W.kitOne K (.ref C) (.type "list") = some false)
    (z0 : PySem.W.nsIn K mainGlobals "len" = some none)
    (z1 : PySem.W.nsIn K mainGlobals "range" = some none)
    (z2 : PySem.W.nsIn K mainGlobals "list" = some none)
    (z3 : PySem.W.nsIn K mainGlobals "tuple" = some none)
    (z4 : PySem.W.nsIn K mainGlobals "int" = some none)
    (z5 : PySem.W.nsIn K mainGlobals "bool" = some none)
    (z6 : PySem.W.nsIn K mainGlobals "abs" = some none)
    (z7 : PySem.W.nsIn K mainGlobals "max" = some none)
    (z8 : PySem.W.nsIn K mainGlobals "min" = some none)
    (z9 : PySem.W.nsIn K mainGlobals "sorted" = some none)
    (z10 : PySem.W.nsIn K mainGlobals "enumerate" = some none)
    (z11 : PySem.W.nsIn K mainGlobals "isinstance" = some none)
    (z12 : PySem.W.nsIn K mainGlobals "all" = some none)
    (z13 : PySem.W.nsIn K mainGlobals "sum" = some none)
    (z14 : PySem.W.nsIn K mainGlobals "zip" = some none)
    (z15 : PySem.W.nsIn K mainGlobals "repr" = some none)
    (g0x : PySem.W.nsIn K mainGlobals "GREATEST_AMOUNT" = some (some (.int 6 g0)))
    (g1x : PySem.W.nsIn K mainGlobals "MOST_WORKS" = some (some (.int 6 g1)))
    (g2x : PySem.W.nsIn K mainGlobals "MOST_READERS" = some (some (.int 6 g2))) :
    ∃ fd : FuncData, (∀ (s : Shared) (v : Value), BindsTo s fd ⟨[v], []⟩ [("script", v)]) ∧ ∀ base : Heap, K.In base → base.Ns mainGlobals mg → (∃ o, base.get? sysModules = some o) → FnOkG l.prog w K mg base 6 fa fd ["script"] (spLaw K) := by
  have e := hfa.symm.trans (PySem.W.mg_of X G a31)
  cases e
  have F1 := fun_mk (st := sIsInt) l1 c1 k1
  have b1 := F1.binds (ps := ["value"]) fun _ _ _ _ _ _ us hl => match us, hl with | [_], _ => rfl
  have F2 := fun_mk (st := sIsAmt) l2 c2 k2
  have b2 := F2.binds (ps := ["value"]) fun _ _ _ _ _ _ us hl => match us, hl with | [_], _ => rfl
  have F3 := fun_mk (st := sIsAsc) l3 c3 k3
  have b3 := F3.binds (ps := ["value", "many"]) fun _ _ _ _ _ _ us hl => match us, hl with | [_, _], _ => rfl
  have F4 := fun_mk (st := sAreDem) l4 c4 k4
  have b4 := F4.binds (ps := ["value"]) fun _ _ _ _ _ _ us hl => match us, hl with | [_], _ => rfl
  have F5 := fun_mk (st := sIsRd) l5 c5 k5
  have b5 := F5.binds (ps := ["value", "many"]) fun _ _ _ _ _ _ us hl => match us, hl with | [_, _], _ => rfl
  have F6 := fun_mk (st := sFeed) l6 c6 k6
  have b6 := F6.binds (ps := ["script", "k"]) fun _ _ _ _ _ _ us hl => match us, hl with | [_, _], _ => rfl
  have F7 := fun_mk (st := sTake) l7 c7 k7
  have b7 := F7.binds (ps := ["feed", "many"]) fun _ _ _ _ _ _ us hl => match us, hl with | [_, _], _ => rfl
  have F8 := fun_mk (st := sPick) l8 c8 k8
  have b8 := F8.binds (ps := ["feed", "some"]) fun _ _ _ _ _ _ us hl => match us, hl with | [_, _], _ => rfl
  have F9 := fun_mk (st := sRow) l9 c9 k9
  have b9 := F9.binds (ps := ["feed", "reader"]) fun _ _ _ _ _ _ us hl => match us, hl with | [_, _], _ => rfl
  have F10 := fun_mk (st := sRows) l10 c10 k10
  have b10 := F10.binds (ps := ["feed", "readers", "absent"]) fun _ _ _ _ _ _ us hl => match us, hl with | [_, _, _], _ => rfl
  have F11 := fun_mk (st := sTimes) l11 c11 k11
  have b11 := F11.binds (ps := ["rows", "works"]) fun _ _ _ _ _ _ us hl => match us, hl with | [_, _], _ => rfl
  have F12 := fun_mk (st := sBook) l12 c12 k12
  have b12 := F12.binds (ps := ["feed", "most_works", "most_readers"]) fun _ _ _ _ _ _ us hl => match us, hl with | [_, _, _], _ => rfl
  have F13 := fun_mk (st := sPkRow) l13 c13 k13
  have b13 := F13.binds (ps := ["value", "reader", "many"]) fun _ _ _ _ _ _ us hl => match us, hl with | [_, _, _], _ => rfl
  have F14 := fun_mk (st := sPkRows) l14 c14 k14
  have b14 := F14.binds (ps := ["book", "value"]) fun _ _ _ _ _ _ us hl => match us, hl with | [_, _], _ => rfl
  have F15 := fun_mk (st := sPkPrs) l15 c15 k15
  have b15 := F15.binds (ps := ["book", "absent"]) fun _ _ _ _ _ _ us hl => match us, hl with | [_, _], _ => rfl
  have F16 := fun_mk (st := sPkTimes) l16 c16 k16
  have b16 := F16.binds (ps := ["book", "rows", "absent"]) fun _ _ _ _ _ _ us hl => match us, hl with | [_, _, _], _ => rfl
  have F17 := fun_mk (st := sPkGood) l17 c17 k17
  have b17 := F17.binds (ps := ["book", "rows"]) fun _ _ _ _ _ _ us hl => match us, hl with | [_, _], _ => rfl
  have F18 := fun_mk (st := sPkEnough) l18 c18 k18
  have b18 := F18.binds (ps := ["book", "rows"]) fun _ _ _ _ _ _ us hl => match us, hl with | [_, _], _ => rfl
  have F19 := fun_mk (st := sPkCont) l19 c19 k19
  have b19 := F19.binds (ps := ["rows", "absent", "value"]) fun _ _ _ _ _ _ us hl => match us, hl with | [_, _, _], _ => rfl
  have F20 := fun_mk (st := sPkExt) l20 c20 k20
  have b20 := F20.binds (ps := ["book", "rows", "absent", "value"]) fun _ _ _ _ _ _ us hl => match us, hl with | [_, _, _, _], _ => rfl
  have F21 := fun_mk (st := sGone) l21 c21 k21
  have b21 := F21.binds (ps := ["feed", "readers"]) fun _ _ _ _ _ _ us hl => match us, hl with | [_, _], _ => rfl
  have F22 := fun_mk (st := sPrs) l22 c22 k22
  have b22 := F22.binds (ps := ["readers", "absent"]) fun _ _ _ _ _ _ us hl => match us, hl with | [_, _], _ => rfl
  have F23 := fun_mk (st := sLRow) l23 c23 k23
  have b23 := F23.binds (ps := ["value", "reader", "works"]) fun _ _ _ _ _ _ us hl => match us, hl with | [_, _, _], _ => rfl
  have F24 := fun_mk (st := sLRows) l24 c24 k24
  have b24 := F24.binds (ps := ["value", "readers", "works"]) fun _ _ _ _ _ _ us hl => match us, hl with | [_, _, _], _ => rfl
  have F25 := fun_mk (st := sKept) l25 c25 k25
  have b25 := F25.binds (ps := ["demands", "rows", "absent"]) fun _ _ _ _ _ _ us hl => match us, hl with | [_, _, _], _ => rfl
  have F26 := fun_mk (st := sLExt) l26 c26 k26
  have b26 := F26.binds (ps := ["demands", "readers", "rows", "absent", "value"]) fun _ _ _ _ _ _ us hl => match us, hl with | [_, _, _, _, _], _ => rfl
  have F27 := fun_mk (st := sNearRow) l27 c27 k27
  have b27 := F27.binds (ps := ["feed", "row", "works"]) fun _ _ _ _ _ _ us hl => match us, hl with | [_, _, _], _ => rfl
  have F28 := fun_mk (st := sNear) l28 c28 k28
  have b28 := F28.binds (ps := ["feed", "value", "works"]) fun _ _ _ _ _ _ us hl => match us, hl with | [_, _, _], _ => rfl
  have F29 := fun_mk (st := sMore) l29 c29 k29
  have b29 := F29.binds (ps := ["feed", "demands", "readers", "rows", "absent"]) fun _ _ _ _ _ _ us hl => match us, hl with | [_, _, _, _, _], _ => rfl
  have F30 := fun_mk (st := sTR) l30 c30 k30
  have b30 := F30.binds (ps := ["book", "demands", "rows"]) fun _ _ _ _ _ _ us hl => match us, hl with | [_, _, _], _ => rfl
  have F31 := fun_mk (st := sLaw) l31 c31 k31
  have b31 := F31.binds (ps := ["script"]) fun _ _ _ _ _ _ us hl => match us, hl with | [_], _ => rfl
  have Fm1 := fun_mk (st := sBkInit) lm1 cm1 km1
  have bm1 := Fm1.binds (ps := ["self", "demands", "readers"]) fun _ _ _ _ _ _ us hl => match us, hl with | [_, _, _], _ => rfl
  have Fm2 := fun_mk (st := sBkDem) lm2 cm2 km2
  have bm2 := Fm2.binds (ps := ["self"]) fun _ _ _ _ _ _ us hl => match us, hl with | [_], _ => rfl
  have Fm3 := fun_mk (st := sBkRd) lm3 cm3 km3
  have bm3 := Fm3.binds (ps := ["self"]) fun _ _ _ _ _ _ us hl => match us, hl with | [_], _ => rfl
  have Fm4 := fun_mk (st := sBkEq) lm4 cm4 km4
  have bm4 := Fm4.binds (ps := ["self", "other"]) fun _ _ _ _ _ _ us hl => match us, hl with | [_, _], _ => rfl
  have Fm5 := fun_mk (st := sBkLen) lm5 cm5 km5
  have bm5 := Fm5.binds (ps := ["self"]) fun _ _ _ _ _ _ us hl => match us, hl with | [_], _ => rfl
  have B : Bi mg := ⟨PySem.W.mg_none_of X G z0, PySem.W.mg_none_of X G z1, PySem.W.mg_none_of X G z2, PySem.W.mg_none_of X G z3, PySem.W.mg_none_of X G z4, PySem.W.mg_none_of X G z5, PySem.W.mg_none_of X G z6, PySem.W.mg_none_of X G z7, PySem.W.mg_none_of X G z8, PySem.W.mg_none_of X G z9, PySem.W.mg_none_of X G z10, PySem.W.mg_none_of X G z11, PySem.W.mg_none_of X G z12, PySem.W.mg_none_of X G z13, PySem.W.mg_none_of X G z14, PySem.W.mg_none_of X G z15⟩
  have L : Low K mg := ⟨B, ⟨_, _, F6, b6, PySem.W.mg_of X G a6⟩, ⟨_, _, F7, b7, PySem.W.mg_of X G a7⟩, ⟨_, _, F8, b8, PySem.W.mg_of X G a8⟩, ⟨_, _, F9, b9, PySem.W.mg_of X G a9⟩, ⟨_, _, F10, b10, PySem.W.mg_of X G a10⟩, ⟨_, _, F11, b11, PySem.W.mg_of X G a11⟩, ⟨_, _, F12, b12, PySem.W.mg_of X G a12⟩⟩
  have V1 : Vals1 K mg := ⟨B, ⟨_, PySem.W.mg_of X G g0x⟩, ⟨_, PySem.W.mg_of X G g1x⟩, ⟨_, PySem.W.mg_of X G g2x⟩, ⟨_, _, F1, b1, PySem.W.mg_of X G a1⟩, ⟨_, _, F2, b2, PySem.W.mg_of X G a2⟩, ⟨_, _, F3, b3, PySem.W.mg_of X G a3⟩, ⟨_, _, F4, b4, PySem.W.mg_of X G a4⟩, ⟨_, _, F5, b5, PySem.W.mg_of X G a5⟩⟩
  have cl : Cls K C := ⟨pg, hd, po, sa⟩
  have TB : BookTxt K mg C := ⟨cl, nD, nR, PySem.W.mg_of X G aC, ⟨_, _, Fm1, bm1, ⟨mk, am1, im1, kc⟩⟩, ⟨_, _, Fm2, bm2, ⟨am2, im2, km2⟩⟩, ⟨_, _, Fm3, bm3, ⟨am3, im3, km3⟩⟩, ⟨_, _, Fm4, bm4, ⟨am4, im4, km4⟩⟩, ⟨cl, ha, hn, htk, hm, me⟩, by simp [PySem.W.notFirst]⟩
  have N : NoBook K C := by
    intro T hT
    simp only [List.mem_cons, List.not_mem_nil, or_false] at hT
    rcases hT with rfl | rfl | rfl | rfl | rfl | rfl | rfl
    · exact ⟨t0, notF u0⟩
    · exact ⟨t1, notF u1⟩
    · exact ⟨t2, notF u2⟩
    · exact ⟨t3, notF u3⟩
    · exact ⟨t4, notF u4⟩
    · exact ⟨t5, notF u5⟩
    · exact ⟨t6, notF u6⟩
  have KK : Kl K C := ⟨⟨_, _, Fm5, bm5, ⟨am5, im5, km5⟩⟩, kl⟩
  have RW : Rws K mg := ⟨⟨_, _, F13, b13, PySem.W.mg_of X G a13⟩, ⟨_, _, F14, b14, PySem.W.mg_of X G a14⟩, ⟨_, _, F15, b15, PySem.W.mg_of X G a15⟩, ⟨_, _, F16, b16, PySem.W.mg_of X G a16⟩, ⟨_, _, F17, b17, PySem.W.mg_of X G a17⟩, ⟨_, _, F18, b18, PySem.W.mg_of X G a18⟩, ⟨_, _, F19, b19, PySem.W.mg_of X G a19⟩, ⟨_, _, F20, b20, PySem.W.mg_of X G a20⟩⟩
  have LR : LRws K mg := ⟨PySem.W.mg_none_of X G xset, ⟨_, _, F23, b23, PySem.W.mg_of X G a23⟩, ⟨_, _, F24, b24, PySem.W.mg_of X G a24⟩, ⟨_, _, F25, b25, PySem.W.mg_of X G a25⟩, ⟨_, _, F26, b26, PySem.W.mg_of X G a26⟩, ⟨_, _, F21, b21, PySem.W.mg_of X G a21⟩, ⟨_, _, F22, b22, PySem.W.mg_of X G a22⟩⟩
  have O : Own5 K mg := ⟨⟨_, _, F27, b27, PySem.W.mg_of X G a27⟩, ⟨_, _, F28, b28, PySem.W.mg_of X G a28⟩, ⟨_, _, F29, b29, PySem.W.mg_of X G a29⟩, ⟨_, _, F30, b30, PySem.W.mg_of X G a30⟩⟩
  exact ⟨PySem.W.fnOf "law" "law" (defArgs sLaw) (defBody sLaw) (defScope sLaw) .none kV31 dc31 pm31 an31 cd31 ct31, fun s v => .of_eq rfl, fun base _ _ hb => ok_law F31 L V1 TB N KK RW LR O hb⟩
end Ew
open PySem PySem.W PyProof.Rows in
set_option maxRecDepth 100000 in
set_option maxHeartbeats 0 in
theorem PySem.Challenge.cw_eachworkread_k05_rows_judged_holds : PySem.Challenge.rw_eachworkread_k05_rows_judged.Holds := by
  w_on; o_law; k_head; (case hw => w_witness2)
  k_fill
  refine Ew.walk_ofG2 (l := PySem.Challenge.rw_eachworkread_k05_rows_judged) (n := 63) (k := 6) (x := "script") (sp := fun w => Ew.spLaw _) rfl (by decide) rfl ⟨rfl, by decide, by decide⟩ (by decide +kernel) (fun w h Y => PySem.W.kIn_of Y) ?F (fun _ _ a ns hl hS => ⟨a, ns, rfl, hS, hl, fun _ => rfl⟩)
  case F =>
    intro w mg fa h KX G hmg
    refine' Ew.all_mk KX G hmg ?a1 ?l1 ?c1 ?k1 ?a2 ?l2 ?c2 ?k2 ?a3 ?l3 ?c3 ?k3 ?a4 ?l4 ?c4 ?k4 ?a5 ?l5 ?c5 ?k5 ?a6 ?l6 ?c6 ?k6 ?a7 ?l7 ?c7 ?k7 ?a8 ?l8 ?c8 ?k8 ?a9 ?l9 ?c9 ?k9 ?a10 ?l10 ?c10 ?k10 ?a11 ?l11 ?c11 ?k11 ?a12 ?l12 ?c12 ?k12 ?a13 ?l13 ?c13 ?k13 ?a14 ?l14 ?c14 ?k14 ?a15 ?l15 ?c15 ?k15 ?a16 ?l16 ?c16 ?k16 ?a17 ?l17 ?c17 ?k17 ?a18 ?l18 ?c18 ?k18 ?a19 ?l19 ?c19 ?k19 ?a20 ?l20 ?c20 ?k20 ?a21 ?l21 ?c21 ?k21 ?a22 ?l22 ?c22 ?k22 ?a23 ?l23 ?c23 ?k23 ?a24 ?l24 ?c24 ?k24 ?a25 ?l25 ?c25 ?k25 ?a26 ?l26 ?c26 ?k26 ?a27 ?l27 ?c27 ?k27 ?a28 ?l28 ?c28 ?k28 ?a29 ?l29 ?c29 ?k29 ?a30 ?l30 ?c30 ?k30 ?a31 ?l31 ?c31 ?k31 ?aC ?am1 ?im1 ?lm1 ?cm1 ?km1 ?am2 ?im2 ?lm2 ?cm2 ?km2 ?am3 ?im3 ?lm3 ?cm3 ?km3 ?am4 ?im4 ?lm4 ?cm4 ?km4 ?am5 ?im5 ?lm5 ?cm5 ?km5 ?pg ?hd ?po ?sa ?mk ?kc ?nD ?nR ?ha ?hn ?htk ?hm ?me ?t0 ?u0 ?t1 ?u1 ?t2 ?u2 ?t3 ?u3 ?t4 ?u4 ?t5 ?u5 ?t6 ?u6 ?xset ?kl ?z0 ?z1 ?z2 ?z3 ?z4 ?z5 ?z6 ?z7 ?z8 ?z9 ?z10 ?z11 ?z12 ?z13 ?z14 ?z15 ?g0x ?g1x ?g2x
    (case a1 => k_is)
    (case l1 => k_is)
    (case c1 => k_is)
    (case k1 => k_is)
    (case a2 => k_is)
    (case l2 => k_is)
    (case c2 => k_is)
    (case k2 => k_is)
    (case a3 => k_is)
    (case l3 => k_is)
    (case c3 => k_is)
    (case k3 => k_is)
    (case a4 => k_is)
    (case l4 => k_is)
    (case c4 => k_is)
    (case k4 => k_is)
    (case a5 => k_is)
    (case l5 => k_is)
    (case c5 => k_is)
    (case k5 => k_is)
    (case a6 => k_is)
    (case l6 => k_is)
    (case c6 => k_is)
    (case k6 => k_is)
    (case a7 => k_is)
    (case l7 => k_is)
    (case c7 => k_is)
    (case k7 => k_is)
    (case a8 => k_is)
    (case l8 => k_is)
    (case c8 => k_is)
    (case k8 => k_is)
    (case a9 => k_is)
    (case l9 => k_is)
    (case c9 => k_is)
    (case k9 => k_is)
    (case a10 => k_is)
    (case l10 => k_is)
    (case c10 => k_is)
    (case k10 => k_is)
    (case a11 => k_is)
    (case l11 => k_is)
    (case c11 => k_is)
    (case k11 => k_is)
    (case a12 => k_is)
    (case l12 => k_is)
    (case c12 => k_is)
    (case k12 => k_is)
    (case a13 => k_is)
    (case l13 => k_is)
    (case c13 => k_is)
    (case k13 => k_is)
    (case a14 => k_is)
    (case l14 => k_is)
    (case c14 => k_is)
    (case k14 => k_is)
    (case a15 => k_is)
    (case l15 => k_is)
    (case c15 => k_is)
    (case k15 => k_is)
    (case a16 => k_is)
    (case l16 => k_is)
    (case c16 => k_is)
    (case k16 => k_is)
    (case a17 => k_is)
    (case l17 => k_is)
    (case c17 => k_is)
    (case k17 => k_is)
    (case a18 => k_is)
    (case l18 => k_is)
    (case c18 => k_is)
    (case k18 => k_is)
    (case a19 => k_is)
    (case l19 => k_is)
    (case c19 => k_is)
    (case k19 => k_is)
    (case a20 => k_is)
    (case l20 => k_is)
    (case c20 => k_is)
    (case k20 => k_is)
    (case a21 => k_is)
    (case l21 => k_is)
    (case c21 => k_is)
    (case k21 => k_is)
    (case a22 => k_is)
    (case l22 => k_is)
    (case c22 => k_is)
    (case k22 => k_is)
    (case a23 => k_is)
    (case l23 => k_is)
    (case c23 => k_is)
    (case k23 => k_is)
    (case a24 => k_is)
    (case l24 => k_is)
    (case c24 => k_is)
    (case k24 => k_is)
    (case a25 => k_is)
    (case l25 => k_is)
    (case c25 => k_is)
    (case k25 => k_is)
    (case a26 => k_is)
    (case l26 => k_is)
    (case c26 => k_is)
    (case k26 => k_is)
    (case a27 => k_is)
    (case l27 => k_is)
    (case c27 => k_is)
    (case k27 => k_is)
    (case a28 => k_is)
    (case l28 => k_is)
    (case c28 => k_is)
    (case k28 => k_is)
    (case a29 => k_is)
    (case l29 => k_is)
    (case c29 => k_is)
    (case k29 => k_is)
    (case a30 => k_is)
    (case l30 => k_is)
    (case c30 => k_is)
    (case k30 => k_is)
    (case a31 => k_is)
    (case l31 => k_is)
    (case c31 => k_is)
    (case k31 => k_is)
    (case aC => k_is)
    (case am1 => k_is)
    (case im1 => k_is)
    (case lm1 => k_is)
    (case cm1 => k_is)
    (case km1 => k_is)
    (case am2 => k_is)
    (case im2 => k_is)
    (case lm2 => k_is)
    (case cm2 => k_is)
    (case km2 => k_is)
    (case am3 => k_is)
    (case im3 => k_is)
    (case lm3 => k_is)
    (case cm3 => k_is)
    (case km3 => k_is)
    (case am4 => k_is)
    (case im4 => k_is)
    (case lm4 => k_is)
    (case cm4 => k_is)
    (case km4 => k_is)
    (case am5 => k_is)
    (case im5 => k_is)
    (case lm5 => k_is)
    (case cm5 => k_is)
    (case km5 => k_is)
    (case pg => k_is)
    (case hd => k_is)
    (case po => k_is)
    (case sa => k_is)
    (case mk => k_is)
    (case kc => k_is)
    (case nD => k_is)
    (case nR => k_is)
    (case ha => k_is)
    (case hn => k_is)
    (case htk => k_is)
    (case hm => k_is)
    (case me => kit_is)
    (case t0 => kit_is)
    (case u0 => k_is)
    (case t1 => kit_is)
    (case u1 => k_is)
    (case t2 => kit_is)
    (case u2 => k_is)
    (case t3 => kit_is)
    (case u3 => k_is)
    (case t4 => kit_is)
    (case u4 => k_is)
    (case t5 => kit_is)
    (case u5 => k_is)
    (case t6 => kit_is)
    (case u6 => k_is)
    (case xset => k_is)
    (case kl => kit_is)
    (case z0 => k_is)
    (case z1 => k_is)
    (case z2 => k_is)
    (case z3 => k_is)
    (case z4 => k_is)
    (case z5 => k_is)
    (case z6 => k_is)
    (case z7 => k_is)
    (case z8 => k_is)
    (case z9 => k_is)
    (case z10 => k_is)
    (case z11 => k_is)
    (case z12 => k_is)
    (case z13 => k_is)
    (case z14 => k_is)
    (case z15 => k_is)
    (case g0x => k_is)
    (case g1x => k_is)
    (case g2x => k_is)
