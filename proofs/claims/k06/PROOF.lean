import PyProof.Rows.All
import Wide.All
import OpenK.AllK
import Wide.FinOn
import HandS.ForMost
import HandS.IsInst
import HandS.OwnEq
import HandS.Walk
import HandS.Codes
import HandS.RaiseMore
import HandS.Style
import HandS.NoneIn
import HandS.Rev
import HandS.TupAny
import PyProof.ReprRoads
import HandS.Conv
import PySem.Challenge.RW_eachworkread_k06_counts
set_option Elab.async false
set_option linter.all false
set_option maxRecDepth 100000
/-! What all laws share: heaps, the feed, readers and rows as data. -/
namespace Ew
open PySem PySem.Spec PyProof.Rows L2
/-! ### heaps -/
/-- the feed at f: two ints -/
def FeedAt (H : Hp) (f : Addr) : Prop := ∃ d s : Int, H f = some (.lst [.int d, .int s])
/-- all but the feed is as it was -/
def Ext1 (f : Addr) (H H' : Hp) : Prop := (∀ b o, b ≠ f → H b = some o → H' b = some o) ∧ FeedAt H' f
theorem Ext1.refl {f : Addr} {H : Hp} (h : FeedAt H f) : Ext1 f H H := ⟨fun _ _ _ e => e, h⟩
theorem Ext1.trans {f : Addr} {H H1 H2 : Hp} (a : Ext1 f H H1) (b : Ext1 f H1 H2) : Ext1 f H H2 := ⟨fun c o n e => b.1 c o n (a.1 c o n e), b.2⟩
theorem Ext1.feed {f : Addr} {H H' : Hp} (a : Ext1 f H H') : FeedAt H' f := a.2
theorem Ext1.put {f : Addr} {H : Hp} {d s : Int} : Ext1 f H (upd H f (.lst [.int d, .int s])) := ⟨fun b o n e => by rw [upd_ne n]; exact e, d, s, upd_same⟩
theorem Ext1.new {f p : Addr} {H H1 : Hp} {o : HO} (a : Ext1 f H H1) (n : H1 p = none) : Ext1 f H (upd H1 p o) := by
  obtain ⟨d, s, e⟩ := a.2
  exact ⟨fun b u nb eb => by rw [upd_ne (ne_of_none (a.1 b u nb eb) n)]; exact a.1 b u nb eb, d, s, by rw [upd_ne (ne_of_none e n)]; exact e⟩
/-- an object that was not there may be written -/
theorem Ext1.own {f p : Addr} {H H1 : Hp} {o : HO} (a : Ext1 f H H1) (n : H p = none) (nf : p ≠ f) : Ext1 f H (upd H1 p o) := by
  obtain ⟨d, s, e⟩ := a.2
  refine ⟨fun b u nb eb => ?_, d, s, by rw [upd_ne (Ne.symm nf)]; exact e⟩
  have : b ≠ p := fun z => by rw [z, n] at eb; cases eb
  rw [upd_ne this]
  exact a.1 b u nb eb
theorem Ext1.same {f : Addr} {H H' : Hp} (h : FeedAt H f) (s : Same H H') : Ext1 f H H' := ⟨fun b o _ e => s b o e, let ⟨d, t, e⟩ := h; ⟨d, t, s _ _ e⟩⟩
theorem Ext1.free {f p : Addr} {H H' : Hp} (a : Ext1 f H H') (h : H' p = none) : H p = none := by
  cases q : H p with
  | none => rfl
  | some o =>
    by_cases e : p = f
    · subst e
      obtain ⟨d, s, z⟩ := a.2
      rw [z] at h; cases h
    · rw [a.1 _ _ e q] at h; cases h
theorem FeedAt.ne {H : Hp} {f p : Addr} (h : FeedAt H f) (n : H p = none) : p ≠ f := fun e => by
  obtain ⟨d, s, z⟩ := h
  rw [e, z] at n; cases n
section
variable {K : PySem.W.Frag} {f : Addr} {H H' : Hp}
theorem Ext1.sqT {t : Addr} {xs : List V} (a : Ext1 f H H') (hf : FeedAt H f) (h : SqT K H t xs) : SqT K H' t xs := by
  obtain ⟨d, s, z⟩ := hf
  rcases h with (h | ⟨o, h⟩) | h
  · exact .inl (.inl (a.1 _ _ (fun e => by rw [e, z] at h; cases h) h))
  · exact .inl (.inr ⟨o, a.1 _ _ (fun e => by rw [e, z] at h; cases h) h⟩)
  · exact .inr h
theorem Ext1.sqL {t : Addr} {xs : List V} (a : Ext1 f H H') (nf : t ≠ f) (h : SqL K H t xs) : SqL K H' t xs := by
  rcases h with (h | ⟨o, h⟩) | h
  · exact .inl (.inl (a.1 _ _ nf h))
  · exact .inl (.inr ⟨o, a.1 _ _ nf h⟩)
  · exact .inr h
theorem sameT {t : Addr} {xs : List V} (e : Same H H') (h : SqT K H t xs) : SqT K H' t xs := by
  rcases h with (h | ⟨o, h⟩) | h
  · exact .inl (.inl (e _ _ h))
  · exact .inl (.inr ⟨o, e _ _ h⟩)
  · exact .inr h
end
theorem sameU {H : Hp} {p : Addr} {o : HO} (h : H p = none) : Same H (upd H p o) := fun b x e => by
  rw [upd_ne (ne_of_none e h)]
  exact e
/-! ### rows and readers -/
/-- what is true of a set, a row: ascending, of numbers from 0 below n -/
def Asc (n : Int) (r : List Int) : Prop := r.Pairwise (· < ·) ∧ ∀ x ∈ r, 0 ≤ x ∧ x < n
/-- a tuple of ints -/
def RowT (K : PySem.W.Frag) (H : Hp) (v : V) (r : List Int) : Prop := ∃ t, v = .ref t ∧ SqT K H t (r.map V.int)
/-- a reader: limit, may -/
def RdT (K : PySem.W.Frag) (H : Hp) (v : V) (r : Int × List Int) : Prop := ∃ t m, v = .ref t ∧ SqT K H t [.int r.1, .ref m] ∧ SqT K H m (r.2.map V.int)
def RdOk (n : Int) (r : Int × List Int) : Prop := 0 ≤ r.1 ∧ r.1 ≤ 6 ∧ Asc n r.2
def RowOk (r : Int × List Int) (w : List Int) : Prop := w.Pairwise (· < ·) ∧ (∀ x ∈ w, x ∈ r.2) ∧ (w.length : Int) ≤ r.1
def RdL (K : PySem.W.Frag) (H : Hp) (a : Addr) (rs : List (Int × List Int)) : Prop := ∃ vs, SqL K H a vs ∧ Paired (RdT K H) vs rs
def RowL (K : PySem.W.Frag) (H : Hp) (a : Addr) (ws : List (List Int)) : Prop := ∃ vs, SqL K H a vs ∧ Paired (RowT K H) vs ws
section
variable {K : PySem.W.Frag} {f : Addr} {H H' : Hp}
theorem RowT.ext {v : V} {r : List Int} (a : Ext1 f H H') (hf : FeedAt H f) (h : RowT K H v r) : RowT K H' v r := let ⟨t, e, q⟩ := h; ⟨t, e, a.sqT hf q⟩
theorem RdT.ext {v : V} {r : Int × List Int} (a : Ext1 f H H') (hf : FeedAt H f) (h : RdT K H v r) : RdT K H' v r := let ⟨t, m, e, q, q2⟩ := h; ⟨t, m, e, a.sqT hf q, a.sqT hf q2⟩
theorem RowT.same {v : V} {r : List Int} (a : Same H H') (h : RowT K H v r) : RowT K H' v r := let ⟨t, e, q⟩ := h; ⟨t, e, sameT a q⟩
theorem RdT.same {v : V} {r : Int × List Int} (a : Same H H') (h : RdT K H v r) : RdT K H' v r := let ⟨t, m, e, q, q2⟩ := h; ⟨t, m, e, sameT a q, sameT a q2⟩
theorem RdL.ext {p : Addr} {rs : List (Int × List Int)} (a : Ext1 f H H') (hf : FeedAt H f) (nf : p ≠ f) (h : RdL K H p rs) : RdL K H' p rs := let ⟨vs, q, r⟩ := h; ⟨vs, a.sqL nf q, L2.Paired.mapP r fun _ _ z => z.ext a hf⟩
theorem RowL.ext {p : Addr} {rs : List (List Int)} (a : Ext1 f H H') (hf : FeedAt H f) (nf : p ≠ f) (h : RowL K H p rs) : RowL K H' p rs := let ⟨vs, q, r⟩ := h; ⟨vs, a.sqL nf q, L2.Paired.mapP r fun _ _ z => z.ext a hf⟩
theorem RdL.same {p : Addr} {rs : List (Int × List Int)} (a : Same H H') (h : RdL K H p rs) : RdL K H' p rs := let ⟨vs, q, r⟩ := h; ⟨vs, a.seq q, L2.Paired.mapP r fun _ _ z => z.same a⟩
theorem RowL.same {p : Addr} {rs : List (List Int)} (a : Same H H') (h : RowL K H p rs) : RowL K H' p rs := let ⟨vs, q, r⟩ := h; ⟨vs, a.seq q, L2.Paired.mapP r fun _ _ z => z.same a⟩
end
section
variable {K : PySem.W.Frag} {H : Hp} {D : Addr} {xs : List V} {o : HO}
/-- a list is written: tuples stand -/
theorem sqT_upd {t : Addr} {ys : List V} (e : H D = some (.lst xs)) (h : SqT K H t ys) : SqT K (upd H D o) t ys := by
  rcases h with (h | ⟨o', h⟩) | h
  · exact .inl (.inl (by rw [upd_ne (fun z => by rw [z, e] at h; cases h)]; exact h))
  · exact .inl (.inr ⟨o', by rw [upd_ne (fun z => by rw [z, e] at h; cases h)]; exact h⟩)
  · exact .inr h
theorem RowT.upd {v : V} {r : List Int} (e : H D = some (.lst xs)) (h : RowT K H v r) : RowT K (upd H D o) v r := let ⟨t, a, q⟩ := h; ⟨t, a, sqT_upd e q⟩
theorem RdT.upd {v : V} {r : Int × List Int} (e : H D = some (.lst xs)) (h : RdT K H v r) : RdT K (upd H D o) v r := let ⟨t, m, a, q, q2⟩ := h; ⟨t, m, a, sqT_upd e q, sqT_upd e q2⟩
end
theorem Paired.at1 {α β : Type} {R : α → β → Prop} : ∀ {xs : List α} {ys : List β} {i : Nat} {x : α}, Paired R xs ys → xs[i]? = some x → ∃ y, ys[i]? = some y ∧ R x y
  | _, _, _, _, .nil, e => by simp at e
  | _, _, 0, _, .cons r _, e => by simp at e; subst e; exact ⟨_, rfl, r⟩
  | _, _, i + 1, x, .cons _ t, e => by
    obtain ⟨u, h1, h2⟩ := Paired.at1 (i := i) (x := x) t (by simpa using e)
    exact ⟨u, by simpa using h1, h2⟩
theorem Paired.at2 {α β : Type} {R : α → β → Prop} : ∀ {xs : List α} {ys : List β} {i : Nat} {y : β}, Paired R xs ys → ys[i]? = some y → ∃ x, xs[i]? = some x ∧ R x y
  | _, _, _, _, .nil, e => by simp at e
  | _, _, 0, _, .cons r _, e => by simp at e; subst e; exact ⟨_, rfl, r⟩
  | _, _, i + 1, x, .cons _ t, e => by
    obtain ⟨u, h1, h2⟩ := Paired.at2 (i := i) (y := x) t (by simpa using e)
    exact ⟨u, by simpa using h1, h2⟩
theorem Paired.snoc {α β : Type} {R : α → β → Prop} : ∀ {xs : List α} {ys : List β} {x : α} {y : β}, Paired R xs ys → R x y → Paired R (xs ++ [x]) (ys ++ [y])
  | _, _, _, _, .nil, h => .cons h .nil
  | _, _, _, _, .cons r t, h => .cons r (Paired.snoc t h)
theorem Paired.set' {α β : Type} {R : α → β → Prop} {x : α} {y : β} : ∀ {xs : List α} {ys : List β} (n : Nat), Paired R xs ys → R x y → Paired R (xs.set n x) (ys.set n y)
  | _, _, _, .nil, _ => .nil
  | _, _, 0, .cons _ t, h => .cons h t
  | _, _, n + 1, .cons r t, h => .cons r (Paired.set' n t h)
/-! ### what of the built-in names the text leaves as it is -/
structure Bi (mg : Str → Option Value) : Prop where
  len : mg "len" = none
  range : mg "range" = none
  list : mg "list" = none
  tuple : mg "tuple" = none
  int : mg "int" = none
  bool : mg "bool" = none
  abs : mg "abs" = none
  max : mg "max" = none
  min : mg "min" = none
  sorted : mg "sorted" = none
  enumerate : mg "enumerate" = none
  isinstance : mg "isinstance" = none
  all : mg "all" = none
  sum : mg "sum" = none
  zip : mg "zip" = none
  repr : mg "repr" = none
theorem take_more {α : Type} : ∀ {l : List α} {i : Nat} {x : α}, l[i]? = some x → l.take (i + 1) = l.take i ++ [x]
  | [], i, x, h => by simp at h
  | a :: l, 0, x, h => by
    have e : a = x := Option.some.inj h
    subst e
    rfl
  | a :: l, i + 1, x, h => by
    have ih := take_more (l := l) (i := i) (x := x) h
    show a :: l.take (i + 1) = a :: l.take i ++ [x]
    rw [ih]
    rfl
theorem szL {n : Nat} (h : n ≤ 1000000) : n ≤ sizeLine := Nat.le_trans h (by decide)
theorem szl {n : Nat} (h : n ≤ 1000000) : n < sizeLine := Nat.lt_of_le_of_lt h (by decide)
end Ew
namespace Ew
open PySem PySem.Spec PyProof.Rows L2
/-! ### rows and readers as data -/
section
variable {α : Type} (g : α → PyData)
theorem layAll_map (h : ∀ x, PyData.canLay0 (g x) = true) : ∀ l : List α, PyData.canLayAll0 (l.map g) = true
  | [] => rfl
  | x :: l => by
    show (PyData.canLay0 (g x) && PyData.canLayAll0 (l.map g)) = true
    rw [h x, layAll_map h l]
    rfl
theorem depAll_map {n : Nat} (h : ∀ x, PyData.depth (g x) ≤ n) : ∀ l : List α, PyData.depthAll (l.map g) ≤ n
  | [] => Nat.zero_le _
  | x :: l => by
    show max (PyData.depth (g x)) (PyData.depthAll (l.map g)) ≤ n
    exact Nat.max_le.mpr ⟨h x, depAll_map h l⟩
theorem eqvAll_inj [DecidableEq α] (h : ∀ x y, PyData.eqv (g x) (g y) = decide (x = y)) : ∀ xs ys : List α, PyData.eqvAll (xs.map g) (ys.map g) = decide (xs = ys)
  | [], [] => by simp [PyData.eqvAll]
  | [], _ :: _ => by simp [PyData.eqvAll]
  | _ :: _, [] => by simp [PyData.eqvAll]
  | x :: xs, y :: ys => by
    show (PyData.eqv (g x) (g y) && PyData.eqvAll (xs.map g) (ys.map g)) = _
    rw [h x y, eqvAll_inj h xs ys]
    by_cases e1 : x = y
    · subst e1
      by_cases e2 : xs = ys
      · subst e2; simp
      · simp [e2]
    · simp [e1]
end
def dI (l : List Int) : PyData := .list (l.map .int)
def dT (l : List Int) : PyData := .tuple (l.map .int)
def dR (r : Int × List Int) : PyData := .tuple [.int r.1, dT r.2]
def dRs (rs : List (Int × List Int)) : PyData := .list (rs.map dR)
def dWs (ws : List (List Int)) : PyData := .list (ws.map dT)
theorem eqv_int (x y : Int) : PyData.eqv (.int x) (.int y) = decide (x = y) := by
  simp [PyData.eqv]
  by_cases h : x = y <;> simp [h]
theorem eqv_dT (x y : List Int) : PyData.eqv (dT x) (dT y) = decide (x = y) := by
  show PyData.eqvAll (x.map .int) (y.map .int) = _
  exact eqvAll_inj _ eqv_int x y
theorem eqv_dI (x y : List Int) : PyData.eqv (dI x) (dI y) = decide (x = y) := by
  show PyData.eqvAll (x.map .int) (y.map .int) = _
  exact eqvAll_inj _ eqv_int x y
theorem eqv_dR (x y : Int × List Int) : PyData.eqv (dR x) (dR y) = decide (x = y) := by
  show PyData.eqvAll [.int x.1, dT x.2] [.int y.1, dT y.2] = _
  show (PyData.eqv (.int x.1) (.int y.1) && (PyData.eqv (dT x.2) (dT y.2) && true)) = _
  rw [eqv_int, eqv_dT]
  obtain ⟨a, b⟩ := x
  obtain ⟨c, d⟩ := y
  by_cases h1 : a = c <;> by_cases h2 : b = d <;> simp [h1, h2]
theorem eqv_dRs (x y : List (Int × List Int)) : PyData.eqv (dRs x) (dRs y) = decide (x = y) := by
  show PyData.eqvAll (x.map dR) (y.map dR) = _
  exact eqvAll_inj _ eqv_dR x y
theorem eqv_dWs (x y : List (List Int)) : PyData.eqv (dWs x) (dWs y) = decide (x = y) := by
  show PyData.eqvAll (x.map dT) (y.map dT) = _
  exact eqvAll_inj _ eqv_dT x y
theorem lay_dT (l : List Int) : PyData.canLay0 (dT l) = true := layAll_map PyData.int (fun _ => rfl) l
theorem dep_dT (l : List Int) : PyData.depth (dT l) ≤ 1 := Nat.succ_le_succ (depAll_map PyData.int (n := 0) (fun _ => Nat.le_refl _) l)
theorem lay_dR (r : Int × List Int) : PyData.canLay0 (dR r) = true := by
  show (true && (PyData.canLay0 (dT r.2) && true)) = true
  rw [lay_dT]
  rfl
theorem dep_dR (r : Int × List Int) : PyData.depth (dR r) ≤ 2 := by
  show max 0 (max (PyData.depth (dT r.2)) 0) + 1 ≤ 2
  have := dep_dT r.2
  omega
theorem shp {d : PyData} {n : Nat} (h1 : PyData.canLay0 d = true) (h2 : PyData.depth d ≤ n) (h3 : n ≤ 64) : SeqAt.shaped d = true := by
  unfold SeqAt.shaped
  rw [h1, decide_eq_true (Nat.le_trans h2 h3)]
  rfl
theorem shp_dT (l : List Int) : SeqAt.shaped (dT l) = true := shp (lay_dT l) (dep_dT l) (by decide)
theorem shp_dI (l : List Int) : SeqAt.shaped (dI l) = true := shp (layAll_map PyData.int (fun _ => rfl) l) (Nat.succ_le_succ (depAll_map PyData.int (n := 0) (fun _ => Nat.le_refl _) l)) (n := 1) (by decide)
theorem shp_dRs (rs : List (Int × List Int)) : SeqAt.shaped (dRs rs) = true := shp (layAll_map dR lay_dR rs) (Nat.succ_le_succ (depAll_map dR dep_dR rs)) (n := 3) (by decide)
theorem shp_dWs (ws : List (List Int)) : SeqAt.shaped (dWs ws) = true := shp (layAll_map dT lay_dT ws) (Nat.succ_le_succ (depAll_map dT dep_dT ws)) (n := 2) (by decide)
section
variable {K : PySem.W.Frag} {H : Hp}
theorem dpAll_ints : ∀ l : List Int, DpAll K H (l.map V.int) (l.map PyData.int)
  | [] => .nil
  | _ :: l => .cons (.int _) (dpAll_ints l)
theorem dpAll_map {α : Type} {R : V → α → Prop} {g : α → PyData} (h : ∀ v a, R v a → Dp K H v (g a)) : ∀ {vs : List V} {as : List α}, Paired R vs as → DpAll K H vs (as.map g)
  | _, _, .nil => .nil
  | _, _, .cons r t => .cons (h _ _ r) (dpAll_map h t)
theorem dp_dI {a : Addr} {l : List Int} (h : SqL K H a (l.map V.int)) : Dp K H (.ref a) (dI l) := .lst h (dpAll_ints l)
theorem dp_dT {v : V} {l : List Int} (h : RowT K H v l) : Dp K H v (dT l) := let ⟨_, e, q⟩ := h; e ▸ .tup q (dpAll_ints l)
theorem dp_dR {v : V} {r : Int × List Int} (h : RdT K H v r) : Dp K H v (dR r) := let ⟨_, _, e, q, q2⟩ := h; e ▸ .tup q (.cons (.int _) (.cons (dp_dT ⟨_, rfl, q2⟩) .nil))
theorem dp_dRs {a : Addr} {us : List V} {rs : List (Int × List Int)} (h : SqL K H a us) (p : Paired (RdT K H) us rs) : Dp K H (.ref a) (dRs rs) := .lst h (dpAll_map (g := dR) (fun _ _ z => dp_dR z) p)
theorem dp_dWs {a : Addr} {us : List V} {ws : List (List Int)} (h : SqL K H a us) (p : Paired (RowT K H) us ws) : Dp K H (.ref a) (dWs ws) := .lst h (dpAll_map (g := dT) (fun _ _ z => dp_dT z) p)
end
/-! ### == and != by an own __eq__, of anything -/
section
variable {prog : Program} {w : World} {A : Around} {E : Value → Shared → Prop}
/-- the type of a value, looked at -/
theorem looksT {X : Cx} {pins : List (Addr × Obj)} {σ : L2.St} {H : Hp} {s : Shared} {x : V} {u t : Value} (I : Inv X pins σ H s) (rx : RelV x u) (ty : TyX X.K H x t) : PySem.W.Looks (model X.prog X.w) s.heap (typeOf u) t := by
  have one : ∀ (a : Addr) (o : Obj), s.heap.get? a = some o → o.cls = t → PySem.W.Looks (model X.prog X.w) s.heap (typeOf (.ref a)) t := fun a o ho hc A Q E s' k q => wpAny_typeOf_ref (k _ _ ho) (by rw [hc]; exact q)
  cases ty with
  | base b =>
    cases b with
    | non => cases (show u = Value.none from rx); exact fun A Q E s' k q => wpAny_pure q
    | bl y => cases (show u = Value.bool y from rx); exact fun A Q E s' k q => wpAny_pure q
    | int i => obtain ⟨t, q⟩ := (show ∃ t, u = Value.int i t from rx); cases q; exact fun A Q E s' k q => wpAny_pure q
    | str y => obtain ⟨t, q⟩ := (show ∃ t, u = Value.str y t from rx); cases q; exact fun A Q E s' k q => wpAny_pure q
    | flt y => obtain ⟨t, q⟩ := (show ∃ t, u = Value.float y t from rx); cases q; exact fun A Q E s' k q => wpAny_pure q
    | @lst a xs ea =>
      cases (show u = Value.ref a from rx)
      obtain ⟨_, _, n, _, h1⟩ := (show ObjOk X.prog X.w H s.heap a (.lst xs) from I.hok a _ ea)
      exact one _ _ h1 rfl
    | @frz a ob xs ea =>
      cases (show u = Value.ref a from rx)
      obtain ⟨_, _, _, n, _, h1⟩ := (show ObjOk X.prog X.w H s.heap a (.frz ob (.lst xs)) from I.hok a _ ea)
      exact one _ _ h1 rfl
    | @tup a xs ea =>
      cases (show u = Value.ref a from rx)
      obtain ⟨_, _, _, o, h1, h2, _⟩ := (show ObjOk X.prog X.w H s.heap a (.tup xs) from I.hok a _ ea)
      exact one _ _ h1 h2
    | @dK a kvs ea =>
      cases (show u = Value.ref a from rx)
      obtain ⟨_, _, vs, _, o, es, ep, h1, h2, _⟩ := (show ObjOk X.prog X.w H s.heap a (.dK kvs) from I.hok a _ ea)
      exact one _ _ h1 h2.1
    | @dT a kvs ea =>
      cases (show u = Value.ref a from rx)
      obtain ⟨_, _, xs, _, o, es, ep, h1, h2, _⟩ := (show ObjOk X.prog X.w H s.heap a (.dT kvs) from I.hok a _ ea)
      exact one _ _ h1 h2.1
    | @ins a C dx fs ea cl ha hn htk hm =>
      cases (show u = Value.ref a from rx)
      obtain ⟨mA, O, _⟩ := ins_get I.hok ea
      obtain ⟨od, J, _⟩ := O.look
      exact J.type
  | byt y => obtain ⟨t, q⟩ := (show ∃ t, u = Value.bytes y t from rx); cases q; exact fun A Q E s' k q => wpAny_pure q
  | @set a S n ea =>
    cases (show u = Value.ref a from rx)
    obtain ⟨o, _, _, _, e, ex, _⟩ := I.hok a _ ea
    exact one _ _ e ex.1
  | @kList a o e c =>
    cases (show u = Value.ref a from rx)
    exact one _ _ (I.kIn a o e) c
  | @kTuple a o e c =>
    cases (show u = Value.ref a from rx)
    exact one _ _ (I.kIn a o e) c
  | @kDict a o e c =>
    cases (show u = Value.ref a from rx)
    exact one _ _ (I.kIn a o e) c
  | @fTuple a ob xs ea =>
    cases (show u = Value.ref a from rx)
    obtain ⟨_, _, _, _, o, h1, h2, _⟩ := (show ObjOk X.prog X.w H s.heap a (.frz ob (.tup xs)) from I.hok a _ ea)
    exact one _ _ h1 h2
  | @fDict a ob kvs ea =>
    cases (show u = Value.ref a from rx)
    obtain ⟨_, _, _, vs, _, o, es, ep, h1, h2, _⟩ := (show ObjOk X.prog X.w H s.heap a (.frz ob (.dK kvs)) from I.hok a _ ea)
    exact one _ _ h1 h2.1
end
/-- x == y, x an instance of the class at C with an own __eq__ whose promise is sp; y of a type that has no say -/
def rOwnEq (K : PySem.W.Frag) (C : Addr) (sp : Sp) (neg : Bool) : R2 := fun x y H Q => ∃ a dx fs t, x = .ref a ∧ H a = some (.ins C dx fs) ∧ TyX K H y t ∧ PySem.W.notFirst K C t = true ∧
  sp [x, y] H (fun v H' => ∃ b, v = .bl b ∧ Q (.bl (if neg then !b else b)) H') E0
section
variable {X : Cx} {n : Nat} {C f : Addr} {fd : FuncData} {ps : List Str} {sp : Sp}
theorem op_eqOwn (F : FnOk X.prog X.w X.K X.mg X.base CX0 n f fd ps sp) (hr : Room n X.A) (hs : PySem.W.findIn X.K (.ref C) "__eq__" = some (some (.ref f))) (hf : PySem.W.isFn X.K (.ref f) = true) (hb : Binds X.K fd ps []) :
    OpR X (compareOp .Eq) (rOwnEq X.K C sp false) := by
  intro pins s σ H x y v u Q I rx ry hq
  obtain ⟨a, dx, fs, t, rfl, ha, ty, hn, hsp⟩ := hq
  cases rx
  obtain ⟨mA, J, _⟩ := ins_get I.hok ha
  obtain ⟨od, J, _⟩ := J.look
  obtain ⟨m, hF⟩ := I.fr
  show wpAny (model X.prog X.w) X.A (richCompare .Eq (.ref a) u) (EP X pins σ Q) X.xe s
  refine PySem.W.cmp_K (op := .Eq) (tb := t) hr.units0 hF I.ok.mod.kin J (looksT I ry ty) hn hs hf ?_
  refine wpAny_mono (run_fn (vs := [V.ref a, y]) (us := [Value.ref a, u]) F hr hb .nil pass0 I (.cons rfl (.cons ry .nil)) hsp) (fun r s' hq => ?_) fun _ _ h => h
  obtain ⟨z, H', I', rz, b, ez, q⟩ := hq
  subst ez
  cases rz
  exact ⟨.bl b, H', I', rfl, q⟩
end
end Ew
namespace Ew
open PySem PySem.Spec PyProof.Rows L2
/-! ### x != y, x an instance of a class that has an __eq__ and no __ne__; len(x) by an own __len__ -/
theorem on_bind (self : Value) : bindSpecial (.builtin "object.__ne__") self = pure (.builtin "object.__ne__", [self]) :=
  (Slot.of (T := "object") (name := "__ne__") (owner := "object") (n := "__ne__") (by rw [typeLookup_type, builtinLookup_eq_fast]; kernel_rfl) (by decide +kernel) (by decide +kernel) (by decide +kernel)
    (.inl (by decide +kernel)) (by rw [isSubtype_type]; kernel_rfl)).bind self
/-- what the written part says of a class over object -/
def OverObject (K : PySem.W.Frag) (C : Addr) : Prop := ∃ nm q N bs bm sn sub ab col dd k0 k1 k2 k3 k5 hd nid, K.lookup C = some (excClassObj nm q C N bs bm hd sn sub ab col dd k0 k1 k2 k3 k5 nid) ∧ bm.contains (.type "object") = true
section
variable {prog : Program} {w : World} {A : Around} {E : Value → Shared → Prop} {s : Shared} {K : PySem.W.Frag} {x C L f : Addr} {h₀ : Heap} {m : Str → Option Value} {ox : Obj} {od : Option Obj} {b tb : Value}
open PySem.W PySem.Calls Builtin in
theorem objNe_K (hu : A.units < cLine) (X : K.In s.heap) (I : InstAt s.heap x ox C od) (hs : findIn K (.ref C) "__eq__" = some (some (.ref f))) (hf : isFn K (.ref f) = true) {Q : PySem.Fin → Shared → Prop}
    (hcall : wpAny (model prog w) A (call (.ref f) [.ref x, b]) (fun v s' => ∃ c, v = .bool c ∧ Q (.done (.ret (.bool (!c)))) s') E s) :
    wpAny (model prog w) A (Builtin.«object.__ne__» ⟨[.ref x, b], []⟩) Q E s := by
  unfold Builtin.«object.__ne__»
  repeat (first
    | with_reducible refine wpAny_cRoomFor hu ?_
    | (refine wpAny_bind (m := callSpecialIfBound? (.ref x) (Str.ofString "__eq__") [b])
        (ifBound_K X I hs hf (wpAny_mono hcall (fun r s' hr => by
          obtain ⟨c, rfl, hq⟩ := hr
          repeat (first | exact hq | exact wpAny_pure hq | exact wpAny_truthy_bool hq | (refine wpAny_bind (m := truthy (.bool _)) (wpAny_truthy_bool ?_)) | wp_step)) fun _ _ e => e)))
    | wp_step)
open PySem.W PySem.Calls Builtin in
theorem ifBound_B {M : Model} {name : Str} {id : String} {args : List Value} {Q : Option Value → Shared → Prop} (X : K.In s.heap) (I : InstAt s.heap x ox C od) (hs : findIn K (.ref C) name = some (some (.builtin id))) (hbind : ∀ self, bindSpecial (.builtin id) self = pure (.builtin id, [self]))
    (h : wpAny M A (call (.builtin id) (.ref x :: args)) (fun v => Q (some v)) E s) : wpAny M A (callSpecialIfBound? (.ref x) name args) Q E s := by
  simp only [callSpecialIfBound?, bindSpecialIfBound?, hbind]
  refine wpAny_holding (wpAny_bind (wpAny_bind (wpAny_bind (I.type.here ((looks_findIn X hs).here ?_)))))
  refine wpAny_bind (wpAny_askSetting (wpAny_ite ?_))
  have fin : wpAny M A (call (.builtin id) ([.ref x] ++ args) >>= fun v => pure (some v)) Q E s := wpAny_bind (wpAny_mono h (fun v s' h' => wpAny_pure h') fun _ _ h' => h')
  split
  · simp only [hbind]
    exact wpAny_bind (wpAny_pure (wpAny_pure (by exact fin)))
  · simp only [hbind]
    exact wpAny_tryCatch (wpAny_bind (wpAny_pure (wpAny_pure (by exact fin))))
open PySem.W PySem.Calls Builtin in
theorem ne_K' {Q : Value → Shared → Prop} (hu : A.units + 1 < cLine) (F : Fr h₀ L s.heap m) (X₀ : K.In h₀) (I : InstAt s.heap x ox C od) (hox : s.heap.get? x = some ox) (hoc : ox.cls = .ref C) (ho : OverObject K C) (hb : Looks (model prog w) s.heap (typeOf b) tb) (hn : notFirst K C tb = true)
    (hne : findIn K (.ref C) "__ne__" = some (some (.builtin "object.__ne__"))) (hs : findIn K (.ref C) "__eq__" = some (some (.ref f))) (hf : isFn K (.ref f) = true)
    (h : wpAny (model prog w) A.in1 (call (.ref f) [.ref x, b]) (fun v s' => ∃ c, v = .bool c ∧ Q (.bool (!c)) s') E s) : wpAny (model prog w) A (richCompare .NotEq (.ref x) b) Q E s := by
  have X := X₀.keeps F.keep
  obtain ⟨nm, q, N, bs, bm, sn, sub, ab, col, dd, k0, k1, k2, k3, k5, hd, nid, hC, hbm⟩ := ho
  have one : wpAny (model prog w) A (tryCompare (.ref x) "__ne__" b) (fun r s' => ∃ v, r = some v ∧ Q v s') E s := by
    unfold tryCompare
    refine wpAny_bind (ifBound_B X I hne on_bind ?_)
    obtain ⟨hp, g, d, t, os⟩ := s
    refine wpAny_call (codeAny_call_builtin (by decide +kernel) PySem.F.cmpEntry_ne (wpAny_check_slot_inst PySem.F.cmpKind_ne PySem.F.cmpSplit_ne (PySem.F.cmpArgs_ne _ _) hbm hox hoc (X _ _ hC)
        (objNe_K (A := A.in1) hu X I hs hf (wpAny_mono h (fun v s' hv => ?_) fun _ _ e => e))))
    obtain ⟨c, rfl, hq⟩ := hv
    first | exact ⟨c, rfl, wpAny_pure ⟨_, rfl, hq⟩⟩ | exact ⟨c, rfl, wpAny_pure (wpAny_pure ⟨_, rfl, hq⟩)⟩
  unfold richCompare
  simp only [oneThing_ref]
  refine wpAny_holding (wpAny_bind (wpAny_cRoomFor (Nat.lt_of_succ_lt hu) ?_))
  refine wpAny_bind (I.type.here (wpAny_bind (hb.here ?_)))
  split
  · rename_i q
    have e : subIn K tb (.ref C) = some false := by
      rcases Bool.or_eq_true_iff.mp hn with e | e
      · rw [beq_iff_eq.mp e] at q; simp at q
      · exact beq_iff_eq.mp e
    refine wpAny_bind ((looks_subIn X e).here ?_)
    simp only [Bool.false_eq_true, if_false]
    refine wpAny_bind (wpAny_mono one (fun r s' z => ?_) fun _ _ e => e)
    obtain ⟨v, rfl, hq⟩ := z
    exact wpAny_pure hq
  · refine wpAny_bind (wpAny_pure ?_)
    simp only [Bool.false_eq_true, if_false]
    refine wpAny_bind (wpAny_mono one (fun r s' z => ?_) fun _ _ e => e)
    obtain ⟨v, rfl, hq⟩ := z
    exact wpAny_pure hq
end
section
variable {X : Cx} {n : Nat} {C f : Addr} {fd : FuncData} {ps : List Str} {sp : Sp}
/-- the callee runs below a builtin -/
theorem run_in1 {pins : List (Addr × Obj)} {σ : L2.St} {H : Hp} {s : Shared} {Q : VK} {us : List Value} {vs : List V} (F : FnOk X.prog X.w X.K X.mg X.base CX0 n f fd ps sp) (hr : Room (n + 1) X.A) (hb : Binds X.K fd ps [])
    (I : Inv X pins σ H s) (r : Vals vs us) (h : sp vs H Q E0) : wpAny (model X.prog X.w) X.A.in1 (call (.ref f) us) (EP X pins σ Q) X.xe s := by
  have hl : us.length = ps.length := by rw [← r.length]; exact F.len _ _ _ _ h
  refine wpAny_call (codeAny_mono (F.run X.A.in1 X.stack s H ⟨us, []⟩ us vs Q E0 hr.in1 I.env0.in1 (by
    have := hb s us I.kIn (by simpa using hl)
    simpa using this) r h) fun r s' hq => ?_)
  cases r with
  | error e => exact False.elim hq
  | ok fl =>
    cases fl with
    | ret u => exact I.after hq
    | next => exact False.elim hq
    | brk => exact False.elim hq
    | cont => exact False.elim hq
theorem op_neOwn (F : FnOk X.prog X.w X.K X.mg X.base CX0 n f fd ps sp) (hr : Room (n + 1) X.A) (hs : PySem.W.findIn X.K (.ref C) "__eq__" = some (some (.ref f))) (hf : PySem.W.isFn X.K (.ref f) = true) (hb : Binds X.K fd ps [])
    (ho : OverObject X.K C) (hne : PySem.W.findIn X.K (.ref C) "__ne__" = some (some (.builtin "object.__ne__"))) : OpR X (compareOp .NotEq) (rOwnEq X.K C sp true) := by
  intro pins s σ H x y v u Q I rx ry hq
  obtain ⟨a, dx, fs, t, rfl, ha, ty, hn, hsp⟩ := hq
  cases rx
  obtain ⟨mA, J, _⟩ := ins_get I.hok ha
  obtain ⟨od, J, _⟩ := J.look
  obtain ⟨m, hF⟩ := I.fr
  obtain ⟨_, _, _, hget, _⟩ := (show ObjOk X.prog X.w H s.heap a (.ins C dx fs) from I.hok a _ ha)
  have hu := hr.units
  show wpAny (model X.prog X.w) X.A (richCompare .NotEq (.ref a) u) (EP X pins σ Q) X.xe s
  refine ne_K' (tb := t) (by omega) hF I.ok.mod.kin J hget rfl ho (looksT I ry ty) hn hne hs hf ?_
  refine wpAny_mono (run_in1 (vs := [V.ref a, y]) (us := [Value.ref a, u]) F hr hb I (.cons rfl (.cons ry .nil)) hsp) (fun r s' hq => ?_) fun _ _ h => h
  obtain ⟨z, H', I', rz, b, ez, q⟩ := hq
  subst ez
  cases rz
  exact ⟨b, rfl, .bl (!b), H', I', rfl, q⟩
/-- len(x), x an instance of the class at C with an own __len__ -/
theorem call_lenOwn (F : FnOk X.prog X.w X.K X.mg X.base CX0 n f fd ps sp) (hr : Room (n + 1) X.A) (hs : PySem.W.findIn X.K (.ref C) "__len__" = some (some (.ref f))) (hf : PySem.W.isFn X.K (.ref f) = true) (hb : Binds X.K fd ps []) :
    CallR X (.builtin "len") (fun xs H Q => ∃ a dx fs, xs = [.ref a] ∧ H a = some (.ins C dx fs) ∧ sp [.ref a] H (fun v H' => ∃ k : Int, v = .int k ∧ (0 ≤ k ∧ k < 2 ^ 63) ∧ Q (.int k) H') E0) := by
  intro pins s σ H xs us Q I r hq
  obtain ⟨a, dx, fs, rfl, ha, hsp⟩ := hq
  cases r with
  | cons r1 r2 =>
    cases r2
    cases r1
    obtain ⟨mA, J, _⟩ := ins_get I.hok ha
    obtain ⟨od, J, _⟩ := J.look
    obtain ⟨m, hF⟩ := I.fr
    refine PySem.W.len_K hF I.ok.mod.kin J hs hf ?_
    refine wpAny_mono (run_in1 (vs := [V.ref a]) (us := [Value.ref a]) F hr hb I (.cons rfl .nil) hsp) (fun r s' hq => ?_) fun _ _ h => h
    obtain ⟨z, H', I', rz, k, ez, hk, q⟩ := hq
    subst ez
    obtain ⟨t, rfl⟩ := rz
    exact ⟨hk, .int k, H', I'.tok _, ⟨_, rfl⟩, q⟩
end
end Ew
namespace Ew
open PySem PySem.Spec PyProof.Rows L2
section
variable {X : Cx}
theorem cut_all {xs : List V} {lo hi : Option Int} (h : HT.sIx xs.length 0 lo = 0 ∧ HT.sIx xs.length xs.length hi = xs.length) : cutV xs lo hi = xs := by
  unfold cutV
  rw [h.1, h.2, List.drop_zero, Nat.sub_zero, List.take_length]
/-- t[lo:hi], the whole too -/
def rSl1 (K : PySem.W.Frag) : V → Option Int → Option Int → Hp → VK → Prop := fun x lo hi H Q => ∃ a xs, x = .ref a ∧ SqT K H a xs ∧ ∀ p H', Same H H' → SqT K H' p (cutV xs lo hi) → Q (.ref p) H'
theorem sl_tup1 : SlR X (rSl1 X.K) := by
  intro pins s σ H x v vl vu lo hi sl Q I rx hs pl pu h
  obtain ⟨a, xs, rfl, hx, q⟩ := h
  exact sl_tupA pins s σ H _ v vl vu lo hi sl Q I rx hs pl pu ⟨a, xs, rfl, hx, fun hw => q a H (Same.refl H) (by rw [cut_all hw]; exact hx), fun _ p np => q p _ (sameU np) (.inl (.inl upd_same))⟩
end
theorem cut_from (xs : List V) (k : Nat) : cutV xs (some (k : Int)) none = xs.drop k := by
  unfold cutV
  rw [HT.sIx_nat, HT.sIx_none]
  rcases Nat.le_total k xs.length with h | h
  · rw [Nat.min_eq_left h, List.take_of_length_le (by rw [List.length_drop]; omega)]
  · rw [Nat.min_eq_right h, List.drop_of_length_le h, Nat.sub_self]
    simp
theorem cut_to (xs : List V) (k : Nat) : cutV xs none (some (k : Int)) = xs.take k := by
  unfold cutV
  rw [HT.sIx_nat, HT.sIx_none, List.drop_zero, Nat.sub_zero]
  rcases Nat.le_total k xs.length with h | h
  · rw [Nat.min_eq_left h]
  · rw [Nat.min_eq_right h, List.take_of_length_le h, List.take_length]
theorem Paired.drop {α β : Type} {R : α → β → Prop} : ∀ {xs : List α} {ys : List β} (n : Nat), Paired R xs ys → Paired R (xs.drop n) (ys.drop n)
  | _, _, 0, h => h
  | _, _, _ + 1, .nil => .nil
  | _, _, n + 1, .cons _ t => Paired.drop n t
theorem Paired.app {α β : Type} {R : α → β → Prop} : ∀ {xs : List α} {ys : List β} {us : List α} {ws : List β}, Paired R xs ys → Paired R us ws → Paired R (xs ++ us) (ys ++ ws)
  | _, _, _, _, .nil, h => h
  | _, _, _, _, .cons r t, h => .cons r (Paired.app t h)
theorem Paired.rev {α β : Type} {R : α → β → Prop} : ∀ {xs : List α} {ys : List β}, Paired R xs ys → Paired R xs.reverse ys.reverse
  | _, _, .nil => .nil
  | x :: xs, y :: ys, .cons r t => by
    rw [List.reverse_cons, List.reverse_cons]
    exact Paired.app (Paired.rev t) (.cons r .nil)
end Ew
namespace Ew
open PySem PySem.Spec PyProof.Rows L2
/-! ### repr of data, where no repr is under way -/
mutual
theorem dp_noDict {K : PySem.W.Frag} {H : Hp} : ∀ (d : PyData) (v : V), Dp K H v d → d.hasDict = false
  | .none, _, _ => rfl
  | .bool _, _, _ => rfl
  | .int _, _, _ => rfl
  | .str _, _, _ => rfl
  | .list ds, _, h => by
    cases h with
    | lst _ ha => exact dpAll_noDict ds _ ha
  | .tuple ds, _, h => by
    cases h with
    | tup _ ha => exact dpAll_noDict ds _ ha
  | .dict _, _, h => by cases h
theorem dpAll_noDict {K : PySem.W.Frag} {H : Hp} : ∀ (ds : List PyData) (vs : List V), DpAll K H vs ds → PyData.hasDictAll ds = false
  | [], _, _ => rfl
  | d :: ds, _, h => by
    cases h with
    | cons h1 h2 =>
      show (PyData.hasDict d || PyData.hasDictAll ds) = false
      rw [dp_noDict d _ h1, dpAll_noDict ds _ h2]
      rfl
end
def rRepr (K : PySem.W.Frag) : List V → Hp → VK → Prop := fun xs H Q => ∃ v d, xs = [v] ∧ Dp K H v d ∧ d.showable = true ∧ d.depth ≤ 60 ∧ d.shown.length ≤ sizeLine ∧ Q (.str d.shown) H
section
variable {X : Cx}
theorem call_repr (hg : X.A.guards = some []) (hu : X.A.units + 64 < cLine) : CallR X (.builtin "repr") (rRepr X.K) := by
  intro pins s σ H xs us Q I r h
  obtain ⟨v, d, rfl, hd, hs, hdep, hsz, q⟩ := h
  cases r with
  | cons r1 r2 =>
    cases r2
    rename_i u
    obtain ⟨as, rd⟩ := Dp.reads I d v u hd r1
    have nod := dp_noDict d v hd
    cases hd with
    | non => cases (show u = Value.none from r1); exact PySem.P.repr_of_none ⟨.str _, H, I.tok _, ⟨_, rfl⟩, q⟩
    | bl b => cases (show u = Value.bool b from r1); exact PySem.P.repr_of_bool ⟨.str _, H, I.tok _, ⟨_, rfl⟩, q⟩
    | int i => obtain ⟨t, e⟩ := (show ∃ t, u = Value.int i t from r1); cases e; exact PySem.P.repr_of_int (of_decide_eq_true hs) ⟨.str _, H, I.tok _, ⟨_, rfl⟩, q⟩
    | str y => obtain ⟨t, e⟩ := (show ∃ t, u = Value.str y t from r1); cases e; exact PySem.P.repr_of_str (hsz := hsz) ⟨.str _, H, I.tok _, ⟨_, rfl⟩, q⟩
    | @lst a xs ds h1 h2 =>
      cases (show u = Value.ref a from r1)
      exact repr_of_reads' rd hs (fun e => by rw [nod] at e; cases e) hg (by omega) (fun _ _ e => e) (fun h' u tk hk => ⟨.str _, H, I.kept (t' := tk) hk, ⟨_, rfl⟩, q⟩) hsz
    | @tup a xs ds h1 h2 =>
      cases (show u = Value.ref a from r1)
      exact repr_of_reads' rd hs (fun e => by rw [nod] at e; cases e) hg (by omega) (fun _ _ e => e) (fun h' u tk hk => ⟨.str _, H, I.kept (t' := tk) hk, ⟨_, rfl⟩, q⟩) hsz
end
/-! ### a def that is called where no repr is under way -/
structure FnOkG (P : Program) (w : World) (K : PySem.W.Frag) (mg : Str → Option Value) (base : Heap) (k : Nat) (f : Addr) (fd : FuncData) (ps : List Str) (sp : Sp) : Prop where
  len : ∀ vs H Q E, sp vs H Q E → vs.length = ps.length
  run : ∀ (A : Around) (outer : List Env) (s : Shared) (H : Hp) (args : Args) (us : List Value) (vs : List V) (Q : VK) (E : XK), A.guards = some [] → Room k A → Env0 P w K mg base A outer s H → BindsTo s fd args (ps.zip us) → Vals vs us → sp vs H Q E →
    codeAny (model P w) A (.call (.ref f) args) (CR CX0 outer P w H s Q E) s
section
variable {P : Program} {w : World} {K : PySem.W.Frag} {mg : Str → Option Value} {base : Heap}
theorem okG {x qual : Str} {st : Stmt} {f : Addr} {fd : FuncData} {N ps : List Str} {k : Nat} {sp : Sp} (F : Fun K x qual st f fd) (S : FnScope N ps (defScope st)) (len : ∀ vs H Q E, sp vs H Q E → vs.length = ps.length)
    (hbody : ∀ (cdv : Value) (A : Around) (outer : List Env) (s : Shared) (H : Hp) (vs : List V) (Q : VK) (E : XK), A.guards = some [] → Room k (A.deeper (envOfC qual (defScope st) s.heap.objs.size f cdv)) → sp vs H Q E →
      ∃ t, PSs (cxOf CX0 P w K mg base N qual (defScope st) f cdv A outer s H E).nox (defBody st) t ∧ t { nx := fun _ H' => Q .non H', rt := Q } (L2.start N vs) H) : FnOkG P w K mg base (k + 1) f fd ps sp := by
  obtain ⟨oc, od, kV, doc, pm, an, cdv, ct, osl, rfl, lk, hcd⟩ := F.ex
  refine ⟨len, fun A outer s H args us vs Q E hgd hr e0 hb r hsp => ?_⟩
  have sub : ∀ b o, base.get? b = some o → s.heap.get? b = some o := fun b o e => (e0.bs b o e).1
  have inK : K.In s.heap := e0.mod.kin.keeps sub
  have lim : s.heap.NoLimit := e0.mod.nolimit.keeps sub
  have hkind : ∀ y ∈ ps.zip us, (defScope st).names.lookup y.1 = some .local ∨ ((defScope st).names.lookup y.1 = some .cell ∧ ((cellsFrom (s.heap.objs.size + 1) (defScope st).names []).lookup y.1).isSome = true) := by
    rintro ⟨n, v⟩ hy
    exact (S.par n (List.of_mem_zip hy).1).elim .inl fun z => .inr ⟨z, PySem.W.cellsFrom_some _ _ _ (.inl z)⟩
  refine codeAny_call_function hr.depth (inK _ _ lk) rfl S.co S.gen rfl (PySem.W.codeRec_of inK hcd) (hb _ _ _ _ (wpAny_newFunctionEnv_cells S.kind hkind fun env he s1 hs1 => ?_))
  subst he
  obtain ⟨t, ht, hq⟩ := hbody cdv A outer s H vs Q E hgd (hr.deeper _) hsp
  have I := inv_start (CX := CX0) (P := P) (w := w) (f := f) (cd := cdv) (E := E) (qual := qual) S hr.hd e0 (len _ _ _ _ hsp) r hs1
  refine ⟨lim.keeps hs1.toInCall.keep, codeAny_func (wpAny_mono (ht.nox.run [] s1 (L2.start N vs) H _ I hq) (fun fl s' hs => ?_) fun e s' hs => hs)⟩
  cases fl with
  | ret u => obtain ⟨v, σ', H', J, rv, q⟩ := hs; exact ⟨v, H', J.os, J.bare, J.base, J.hok, rv, q⟩
  | next => obtain ⟨σ', H', J, q⟩ := hs; exact ⟨.non, H', J.os, J.bare, J.base, J.hok, rfl, q⟩
  | brk => obtain ⟨_, _, _, q⟩ := hs; exact q.elim
  | cont => obtain ⟨_, _, _, q⟩ := hs; exact q.elim
end
section
variable {X : Cx} {k : Nat} {f : Addr} {fd : FuncData} {ps : List Str} {sp : Sp} {x : Str} {p pos : Pos} {e : Expr} {es : List Expr} {t : TA}
/-- f(e, ..), f such a def -/
theorem pe_callG (F : FnOkG X.prog X.w X.K X.mg X.base k f fd ps sp) (hgd : X.A.guards = some []) (hr : Room k X.A) (hg : Gl X x) (hm : X.mg x = some (.ref f)) (hk : PySem.W.keepIn X.K (.ref f) = true) (hb : Binds X.K fd ps [])
    (ha : PA X (e :: es) t) (hdb : (x == ("__debug__" : Str)) = false := by decide) (he : starEach (e :: es) X.env = (false, eval e X.env) :: starEach es X.env := by rfl) (hpl : (backTo pos (starEach es X.env)).any (·.1) = false := by rfl) :
    PE X (.Call (.Name x p) (e :: es) [] pos) (tCall sp [] E0 t) := by
  refine ⟨fun pins s σ H Q I h => wpAny_Call_Name_kw (ld_glob I hg hm ?_ hdb)⟩
  refine PySem.W.callWith_K (h₀ := X.base) I.ok.mod.kin hk (thn (ha.run pos pins s σ H _ I h) fun us s1 ⟨vs, H1, I1, r, q⟩ => ⟨I1.kIn, ?_⟩) he hpl
  have q2 : sp (vs ++ []) H1 Q E0 := q
  rw [List.append_nil] at q2
  have hl : us.length = ps.length := by rw [← r.length]; exact F.len _ _ _ _ q2
  refine wpAny_call (codeAny_mono (F.run X.A X.stack s1 H1 ⟨us, []⟩ us vs Q E0 hgd hr I1.env0 (by simpa using hb s1 us I1.kIn (by simpa using hl)) r q2) fun r s' hq => ?_)
  cases r with
  | error _ => exact False.elim hq
  | ok fl =>
    cases fl with
    | ret u => exact I1.after hq
    | next => exact False.elim hq
    | brk => exact False.elim hq
    | cont => exact False.elim hq
end
/-- what is tracked ahead of the law's call: the script alone -/
def only (a : Addr) (o : Obj) (xs : List V) : Hp := fun b => if b = a then some (.frz o (.lst xs)) else none
theorem only_ne {a b : Addr} {o : Obj} {xs : List V} (h : b ≠ a) : only a o xs b = none := if_neg h
theorem only_at {a : Addr} {o : Obj} {xs : List V} : only a o xs a = some (.frz o (.lst xs)) := if_pos rfl
theorem only_is {a b : Addr} {o : Obj} {xs : List V} {u : HO} (h : only a o xs b = some u) : b = a ∧ u = .frz o (.lst xs) := by
  by_cases e : b = a
  · subst e
    rw [only_at] at h
    exact ⟨rfl, (Option.some.inj h).symm⟩
  · rw [only_ne e] at h
    cases h
section
variable {P : Program} {w : World} {K : PySem.W.Frag} {mg mb : Str → Option Value} {k : Nat} {fa a : Addr} {fd : FuncData} {x : Str} {sp : Sp} {s₁ : Shared} {vs : List Value} {ns : List Int}
/-- the law's call from an abstract heap that tracks at most the script -/
theorem call_from {H : Hp} (KX : K.In s₁.heap) (hns : s₁.heap.Ns mainGlobals mg) (hb : s₁.heap.Ns builtinsNs mb) (hbb : ∀ x : Str, x ≠ "__name__" → mb x = bootBuiltins x) (hlim : s₁.heap.NoLimit) (hg : s₁.gens = #[])
    (hr : Room k callerA) (F : ∀ base : Heap, K.In base → base.Ns mainGlobals mg → FnOkG P w K mg base k fa fd [x] sp) (hbind : ∀ (s : Shared) (u : Value), BindsTo s fd ⟨[u], []⟩ [(x, u)])
    (hsp : sp [.ref a] H (fun v _ => v = .bl true) fun _ _ _ => False) (hok : HOk P w H s₁.heap) (dicts : ∀ b o es ep, s₁.heap.get? b = some o → o.data = .dict es ep → H b = none) (kept : ∀ b o, K.lookup b = some o → H b = none)
    (frz : ∀ b u, H b = some u → ∃ o xs, u = .frz o (.lst xs)) :
    codeAny (model P w) callerA (.call (.ref fa) ⟨[.ref a], []⟩) (fun r s' => r = .ok (.ret (.bool true)) ∧ OldK s₁.heap s'.heap ∧ s'.os = s₁.os ∧ AllBare s'.gens) s₁ := by
  have nsB : ∀ {b : Addr} {m : Str → Option Value}, s₁.heap.Ns b m → (hidT s₁.heap H).Ns b m := by
    rintro b m ⟨o, es, ep, e, d, r⟩
    exact ⟨o, es, ep, hidT_get e (dicts _ _ _ _ e d), d, r⟩
  have inB : K.In (hidT s₁.heap H) := fun b o e => hidT_get (KX b o e) (kept b o e)
  have hM : Mod K mg (hidT s₁.heap H) := ⟨inB, nsB hns, ⟨mb, nsB hb, hbb⟩, let ⟨mc, h1, h2⟩ := hlim; ⟨mc, nsB h1, h2⟩⟩
  have noFr : ∀ b ∈ frs ([] : List Env), H b = none := fun b z => absurd (show b ∈ ([] : List Addr) from z) (by simp)
  have e0 : Env0 P w K mg (hidT s₁.heap H) callerA [] s₁ H := ⟨rfl, hM, fun b o e => of_hidT e, Nat.le_of_eq (hidT_size _ _), trivial, noFr, hok, .of_eq hg⟩
  refine codeAny_mono ((F _ inB (nsB hns)).run callerA [] s₁ H ⟨[.ref a], []⟩ [.ref a] [.ref a] _ _ rfl hr e0 (hbind s₁ (.ref a)) (.cons rfl .nil) hsp) fun r s' h => ?_
  cases r with
  | error e => exact False.elim h
  | ok fl =>
    cases fl with
    | next => exact False.elim h
    | brk => exact False.elim h
    | cont => exact False.elim h
    | ret u =>
      obtain ⟨v, H', os, bare, un, hok', r', q⟩ := h
      obtain rfl : v = .bl true := q
      obtain rfl : u = Value.bool true := r'
      refine ⟨rfl, OldK.of_keep fun b o e => ?_, os, bare⟩
      cases hb2 : H b with
      | none => exact un.keep b o e hb2 (fun z => absurd (show b ∈ ([] : List Addr) from z) (by simp)) (by simp)
      | some u =>
        obtain ⟨ob, xs, rfl⟩ := frz b u hb2
        obtain ⟨e1, _⟩ := hok b _ hb2
        obtain ⟨e2, _⟩ := hok' b _ (un.frzs b ob _ hb2)
        exact e2.trans (e1.symm.trans e)
end
/-- the end of a law whose def asks that no repr is under way -/
theorem walk_ofG {l : PySem.W.OpenLaw} {n k : Nat} {q : Program} {loose : List Str} {XP : (Str → Option Value) → Heap → Prop} {YP : World → Heap → Prop} {d : DefRec} {K : Params → PySem.W.Frag} {sp : World → Sp} {x : Str}
    (hn : l.most = some n) (hn2 : n ≤ sizeLine) (hdf : d.params.defaults = []) (hr : Room k callerA)
    (hY : ∀ (w : World) (h : Heap), YP w h → (K w.params).In h)
    (F : ∀ (w : World) (mg : Str → Option Value) (fa : Addr) (h : Heap), (K w.params).In h → h.Ns mainGlobals mg → mg d.name = some (.ref fa) →
      ∃ fd : FuncData, (∀ (s : Shared) (u : Value), BindsTo s fd ⟨[u], []⟩ [(x, u)]) ∧
        ∀ base : Heap, (K w.params).In base → base.Ns mainGlobals mg → FnOkG l.prog w (K w.params) mg base k fa fd [x] (sp w))
    (hsp : ∀ (w : World) (H : Hp) (a : Addr) (ns : List Int), ns.length ≤ n → SqL (K w.params) H a (ns.map V.int) → sp w [.ref a] H (fun v _ => v = .bl true) fun _ _ _ => False) :
    PySem.W.WalkO q loose XP YP l.row.toRowW d [] (fun f vs => PySem.call f vs) := by
  refine Att.attach_call hn hdf fun w s₀ s₁ mg mb fa o pm cd doc a vs ns G Y ho hd hcd hmg hobj hints hlen hg => ?_
  have KX := hY w _ Y
  obtain ⟨fd, hb, hF⟩ := F w mg fa _ KX G.T.g hmg
  have rv := vals_ints hints
  have ls : (ns.map V.int).length ≤ sizeLine := by rw [List.length_map]; exact Nat.le_trans hlen hn2
  cases hk : (K w.params).lookup a with
  | some o =>
    -- the script is one of the module's own objects
    have e := KX a o hk
    rw [hobj] at e
    cases e
    have none_ : ∀ b, (fun _ => none : Hp) b = none := fun _ => rfl
    refine call_from (H := fun _ => none) KX G.T.g G.T.b G.T.builtins G.T.nolimit hg hr hF hb (hsp w _ a ns hlen (.inr ⟨_, vs.toArray, _, hk, rfl, rfl, rfl, ?_, by simpa using rv⟩)) (fun b u z => by cases z) (fun _ _ _ _ _ _ => rfl) (fun _ _ _ => rfl) (fun b u z => by cases z)
    rw [List.size_toArray, ← rv.length]
    exact ls
  | none =>
    refine call_from (H := only a { cls := .type "list", data := .seq vs.toArray } (ns.map V.int)) KX G.T.g G.T.b G.T.builtins G.T.nolimit hg hr hF hb (hsp w _ a ns hlen (.inl (.inr ⟨_, only_at⟩))) (fun b u z => ?_) (fun b ob es ep e d => ?_) (fun b ob e => ?_) (fun b u z => ⟨_, _, (only_is z).2⟩)
    · obtain ⟨rfl, rfl⟩ := only_is z
      exact ⟨hobj, ls, vs, _, rv, hobj⟩
    · refine only_ne fun z => ?_
      rw [z, hobj] at e
      cases e
      cases (show Data.seq vs.toArray _ = Data.dict es ep from d)
    · refine only_ne fun z => ?_
      rw [z, hk] at e
      cases e
end Ew
namespace Ew
open PySem PySem.Spec PyProof.Rows L2
/-! ### sorted(t), t a tuple of ints -/
section
variable {prog : Program} {w : World} {A : Around} {E : Value → Shared → Prop} {s : Shared}
/-- the heap behind the collecting of vs -/
abbrev heapC (h : Heap) (vs : List Value) : Heap := (h.push (seqObj "list" #[] 0)).update h.objs.size (Obj.mapSeq (· ++ vs.toArray))
theorem collect_tup {l : Addr} {vs : List Value} {Q : List Value → Shared → Prop} (hl : IsTup s.heap l vs.toArray) (hsz : vs.length ≤ sizeLine) (h : Q vs { s with heap := heapC s.heap vs }) : wpAny (model prog w) A (collect (.ref l)) Q E s := by
  obtain ⟨o, ho, hc, n, hd⟩ := id hl
  have ho' : (s.heap.push (seqObj "list" #[] 0)).get? l = some o := Heap.get?_push_of_some _ ho
  have hn : (s.heap.push (seqObj "list" #[] 0)).get? s.heap.objs.size = some (seqObj "list" #[] 0) := Heap.get?_push_size _ rfl
  unfold collect
  refine wpAny_bind (wpAny_runValue (codeAny_builtin entry_proto_collect' ?_))
  show wpAny _ _ (do again (.builtin "list.__iadd__" ⟨[← newList [], .ref l], []⟩)) _ _ s
  refine wpAny_bind (wpAny_newList (wpAny_pure ⟨Code.quiet_builtin _ (by decide +kernel), codeAny_builtin entry_list_iadd' ?_⟩))
  show wpAny _ _ (Builtin.List.listExtendWith (.ref s.heap.objs.size) (.ref l) (.ref s.heap.objs.size)) _ _ { s with heap := s.heap.push (seqObj "list" #[] 0) }
  unfold Builtin.List.listExtendWith
  refine wpAny_bind (wpAny_typeOf (T := "tuple") ⟨o, ho', hc⟩ ?_)
  rw [if_pos (by rw [show (Value.type "tuple" == Value.type "tuple") = true from rfl, Bool.or_true])]
  refine wpAny_bind (listItems_at ho' hd (wpAny_bind (listItems_at (xs := #[]) (n := 0) hn rfl ?_)))
  rw [if_neg (by simp)]
  refine wpAny_bind (listUpdate_at (xs := #[]) (n := 0) hn rfl (wpAny_pure ?_) (Nat.zero_le _) (by show (#[] ++ vs.toArray).size ≤ sizeLine + 1; simp; omega))
  show wpAny (model prog w) A (do
      let o ← load s.heap.objs.size
      match o.data with
      | .seq xs _ => pure xs.toList
      | _ => unsupported "internal:collect") Q E { s with heap := heapC s.heap vs }
  refine wpAny_bind (wpAny_load (get?_update_seq hn _) ?_)
  show wpAny _ _ (pure ((#[] : Array Value) ++ vs.toArray).toList) Q E _
  have e : ((#[] : Array Value) ++ vs.toArray).toList = vs := by simp
  rw [e]
  exact wpAny_pure h
theorem sorted_tup {l : Addr} {vs : List Value} {ns : List Int} {Q : Value → Shared → Prop} (hl : IsTup s.heap l vs.toArray) (hI : IntsAre vs ns) (h64 : vs.length < 64)
    (h : ∀ (out : Array Value) (ns' : List Int), IntsAre out.toList ns' → ns'.Perm ns → ns'.Pairwise (· ≤ ·) → Q (.ref (s.heap.objs.size + 1)) { s with heap := sortedAll s.heap vs out }) :
    wpAny (model prog w) A (call (.builtin "sorted") [.ref l]) Q E s := by
  have zs : vs.length ≤ sizeLine := Nat.le_trans (Nat.le_of_lt h64) (by decide)
  have hsz : (heapC s.heap vs).objs.size = s.heap.objs.size + 1 := by rw [Heap.size_update, size_push']
  have hoL : ((heapC s.heap vs).push (seqObj "list" vs.toArray 0)).get? (s.heap.objs.size + 1) = some (seqObj "list" vs.toArray 0) := by
    rw [← hsz]
    exact Heap.get?_push_size _ rfl
  refine Calls.call_function_entry kind_sorted plain_sorted entry_sorted (args_sorted1 _) ?_
  unfold Builtin.«sorted»
  refine wpAny_bind (m := checkCount "sorted" 1 1 _) (wpAny_pure (wpAny_bind (collect_tup hl zs (wpAny_bind (wpAny_newList ?_)))))
  show wpAny _ _ _ _ _ { s with heap := (heapC s.heap vs).push (seqObj "list" vs.toArray 0) }
  rw [hsz]
  exact wpAny_bind (wpAny_holding (wpAny_call_entry slot_list_sort ⟨_, hoL, rfl⟩ entry_list_sort (list_sort_tree hoL hI h64 fun out ns' a1 a2 a3 => ⟨_, rfl, wpAny_pure ⟨_, rfl, h out ns' a1 a2 a3⟩⟩) (args_list_sort _)))
end
section
variable {X : Cx}
def rSortedTu (K : PySem.W.Frag) : List V → Hp → VK → Prop := fun vs H Q => ∃ (a : Addr) (ns : List Int), vs = [V.ref a] ∧ SqT K H a (ns.map V.int) ∧ ns.length < 64 ∧ ∀ (ns' : List Int) (p : Addr), ns'.Perm ns → ns'.Pairwise (· ≤ ·) → H p = none → Q (.ref p) (upd H p (.lst (ns'.map V.int)))
theorem cr_sortedTu : CallR X (.builtin "sorted") (rSortedTu X.K) := by
  intro pins s σ H vs us Q I r h
  obtain ⟨a, ns, rfl, hs, h64, q⟩ := h
  obtain ⟨its, rv, hl, _⟩ := I.tuple hs
  rw [Vals.ref1 r]
  have hi := rv.ints
  refine sorted_tup hl hi (by rw [hi.length]; exact h64) fun out ns' h1 h2 h3 => ?_
  obtain ⟨ep, he⟩ := PyProof.Rows.sortedAll_at s.heap its out
  have hz : (ns'.map V.int).length ≤ sizeLine := by rw [List.length_map, h2.length_eq]; exact Nat.le_trans (Nat.le_of_lt h64) (by decide)
  exact ⟨.ref _, upd H (s.heap.objs.size + 1) (.lst (ns'.map V.int)), I.laid (t' := s.toks) (fun _ _ => PyProof.Rows.sortedAll_old) (Nat.le_succ _) ⟨hz, out.toList, ep, vals_of_ints h1, he⟩, rfl, q ns' _ h2 h3 (I.hok.fresh (Nat.le_succ _))⟩
end
end Ew
namespace Ew
open PySem PySem.Spec PyProof.Rows L2
/-! ### the counts -/
def pres (n : Nat) (as : List Int) : List Int := ((List.range n).filter fun i => !decide (((i : Nat) : Int) ∈ as)).map fun i => ((i : Nat) : Int)
/-- by what is read outside of the set -/
def cnt2 (r : Int × List Int) (row works : List Int) : Int :=
  let o : Int := r.1 - ((row.filter fun x => !decide (x ∈ works)).length : Nat)
  let i : Int := ((works.filter fun x => decide (x ∈ r.2)).length : Nat)
  if i < o then i else o
/-- by what is read within, and what more can be -/
def cnt1 (r : Int × List Int) (row works : List Int) : Int :=
  let has := row.filter fun x => decide (x ∈ works)
  let o : Int := r.1 - (row.length : Nat)
  let i : Int := ((r.2.filter fun x => decide (x ∈ works) && !decide (x ∈ has)).length : Nat)
  (has.length : Nat) + (if i < o then i else o)
theorem split_len {α : Type} (p : α → Bool) : ∀ l : List α, l.length = (l.filter p).length + (l.filter fun x => !p x).length
  | [] => rfl
  | x :: l => by
    have ih := split_len p l
    cases h : p x with
    | true => simp [h]; omega
    | false => simp [h]; omega
theorem nodup_same {xs ys : List Int} (hx : xs.Nodup) (hy : ys.Nodup) (h : ∀ z, z ∈ xs ↔ z ∈ ys) : xs.length = ys.length :=
  ((List.perm_ext_iff_of_nodup hx hy).mpr h).length_eq
theorem nodup_asc {l : List Int} (h : l.Pairwise (· < ·)) : l.Nodup := h.imp fun h => by omega
theorem cnt_eq {r : Int × List Int} {row works : List Int} (ho : RowOk r row) (hm : r.2.Pairwise (· < ·)) (hw : works.Pairwise (· < ·)) : cnt1 r row works = cnt2 r row works := by
  have nr := nodup_asc ho.1
  have nm := nodup_asc hm
  have nw := nodup_asc hw
  have e1 := split_len (fun x => decide (x ∈ works)) row
  -- the works of the set that the reader may read: those that it reads, and the others
  have e2 : (works.filter fun x => decide (x ∈ r.2)).length = (r.2.filter fun x => decide (x ∈ works)).length := nodup_same (nw.filter _) (nm.filter _) (fun z => by simp only [List.mem_filter, decide_eq_true_eq]; exact ⟨fun h => ⟨h.2, h.1⟩, fun h => ⟨h.2, h.1⟩⟩)
  have e3 := split_len (fun x => decide (x ∈ row.filter fun x => decide (x ∈ works))) (r.2.filter fun x => decide (x ∈ works))
  have e4 : ((r.2.filter fun x => decide (x ∈ works)).filter fun x => decide (x ∈ row.filter fun x => decide (x ∈ works))).length = (row.filter fun x => decide (x ∈ works)).length := nodup_same ((nm.filter _).filter _) (nr.filter _) (fun z => by
    simp only [List.mem_filter, decide_eq_true_eq]
    exact ⟨fun h => h.2, fun h => ⟨⟨ho.2.1 z h.1, h.2⟩, h⟩⟩)
  have e5 : ((r.2.filter fun x => decide (x ∈ works)).filter fun x => !decide (x ∈ row.filter fun x => decide (x ∈ works))) = r.2.filter fun x => decide (x ∈ works) && !decide (x ∈ row.filter fun x => decide (x ∈ works)) := by
    rw [List.filter_filter]
    congr 1
    funext x
    exact Bool.and_comm _ _
  rw [e4, e5] at e3
  unfold cnt1 cnt2
  dsimp only
  rw [e2]
  generalize (row.filter fun x => decide (x ∈ works)).length = h at *
  generalize (row.filter fun x => !decide (x ∈ works)).length = o at *
  generalize (r.2.filter fun x => decide (x ∈ works)).length = i at *
  have e6 : (List.filter (fun x => decide (x ∈ works) && !decide (x ∈ List.filter (fun x => decide (x ∈ works)) row)) r.2).length = i - h := by omega
  rw [e6]
  have e7 : ((i - h : Nat) : Int) = (i : Int) - h := by omega
  rw [e7, e1]
  split <;> split <;> omega
/-- one work less in the set takes off none or one -/
theorem cnt_fewer {r : Int × List Int} {row : List Int} {x : Int} {works : List Int} : cnt2 r row (x :: works) - cnt2 r row works = 0 ∨ cnt2 r row (x :: works) - cnt2 r row works = 1 ∨ ¬ (row.Nodup ∧ x ∉ works) := by
  by_cases h : row.Nodup ∧ x ∉ works
  · obtain ⟨nr, nx⟩ := h
    have e1 : ((x :: works).filter fun y => decide (y ∈ r.2)).length = (works.filter fun y => decide (y ∈ r.2)).length + (if x ∈ r.2 then 1 else 0) := by
      by_cases hx : x ∈ r.2 <;> simp [hx]
    have e2 : ∀ row : List Int, row.Nodup → (row.filter fun y => !decide (y ∈ works)).length = (row.filter fun y => !decide (y ∈ x :: works)).length + (if x ∈ row then 1 else 0) := by
      intro row
      induction row with
      | nil => intro _; rfl
      | cons y row ih =>
        intro nd
        have nd' := List.nodup_cons.mp nd
        have ih := ih nd'.2
        by_cases hxy : x = y
        · subst hxy
          have hnr : ¬ x ∈ row := nd'.1
          simp only [hnr, if_false, Nat.add_zero] at ih
          simp [nx, ih]
        · have hyx : ¬ y = x := fun e => hxy e.symm
          have hm : (x ∈ y :: row) ↔ x ∈ row := by simp [hxy]
          by_cases hy : y ∈ works
          · simp [hy, hm, ih]
          · simp [hy, hyx, hm, ih]
            omega
    have e3 := e2 row nr
    unfold cnt2
    dsimp only
    rw [e1, e3]
    generalize (works.filter fun y => decide (y ∈ r.2)).length = i
    generalize (row.filter fun y => !decide (y ∈ x :: works)).length = o
    by_cases h1 : x ∈ r.2 <;> by_cases h2 : x ∈ row <;> simp only [h1, h2, if_true, if_false] <;> (split <;> split <;> omega)
  · exact .inr (.inr h)
/-- one reading more outside of the set takes off none or one -/
theorem cnt_longer {r : Int × List Int} {row row' works : List Int} {x : Int} (hp : row'.Perm (row ++ [x])) (hx : x ∉ works) : cnt2 r row works - cnt2 r row' works = 0 ∨ cnt2 r row works - cnt2 r row' works = 1 := by
  have e : (row'.filter fun y => !decide (y ∈ works)).length = (row.filter fun y => !decide (y ∈ works)).length + 1 := by
    rw [(hp.filter _).length_eq, List.filter_append, List.length_append]
    simp [hx]
  unfold cnt2
  dsimp only
  rw [e]
  split <;> split <;> omega
def cntAt (g : Int × List Int → List Int → List Int → Int) (rs : List (Int × List Int)) (ws : List (List Int)) (works : List Int) (i : Int) : Int := match rs[i.toNat]?, ws[i.toNat]? with
  | some r, some w => g r w works
  | _, _ => 0
def wanted (ds works : List Int) : Int := (works.map fun w => ds.getD w.toNat 0).sum
end Ew
namespace Ew
open PySem PySem.Spec PyProof.Rows L2
/-! ### how long a repr is, what it can show -/
def lens (ts : List Str) : Nat := (ts.map fun t => t.length + 2).sum
theorem textFrom_le : ∀ (ts : List Str) (k : Nat) (acc : Str), (textFrom k acc ts).length ≤ acc.length + lens ts
  | [], _, acc => Nat.le_refl _
  | t :: r, k, acc => by
    have ih := textFrom_le r (k + 1) (acc ++ (if k > 0 then ", " else "" : String) ++ t)
    have e : (acc ++ (if k > 0 then ", " else "" : String) ++ t).length = acc.length + (if k > 0 then 2 else 0) + t.length := by
      rw [strLen_append, strLen_append]
      split <;> rfl
    have e2 : lens (t :: r) = t.length + 2 + lens r := by
      unfold lens
      rw [List.map_cons, List.sum_cons]
    show (textFrom (k + 1) (acc ++ (if k > 0 then ", " else "" : String) ++ t) r).length ≤ _
    rw [e2]
    rw [e] at ih
    have e3 : (if k > 0 then 2 else 0) ≤ 2 := by split <;> omega
    omega
theorem listText_le (ts : List Str) : (listText ts).length ≤ 2 + lens ts := by
  unfold listText
  rw [strLen_append]
  have := textFrom_le ts 0 "["
  have e1 : (("[" : String) : Str).length = 1 := rfl
  have e2 : (("]" : String) : Str).length = 1 := rfl
  rw [e2]
  rw [e1] at this
  omega
theorem piled_lens : ∀ ts : List Str, piled ts = lens ts
  | [] => rfl
  | t :: r => by
    rw [piled_cons, piled_lens r]
    unfold lens
    rw [List.map_cons, List.sum_cons]
theorem tupleText_le (ts : List Str) : (tupleText ts).length ≤ 3 + lens ts := by
  unfold tupleText
  rw [strLen_append, strLen_append]
  have e1 : (("(" : String) : Str).length = 1 := rfl
  have e3 : (((if ts.length == 1 then ",)" else ")" : String)) : Str).length ≤ 2 := by
    split <;> decide
  have e2 : (Str.join ", " ts).length ≤ lens ts := by
    cases ts with
    | nil => exact Nat.zero_le _
    | cons t r =>
      have := join_length_add (t :: r) (by simp)
      rw [piled_lens] at this
      omega
  rw [e1]
  omega
theorem shownAll_map {α : Type} (g : α → PyData) : ∀ l : List α, PyData.shownAll (l.map g) = l.map fun x => PyData.shown (g x)
  | [] => rfl
  | x :: l => by
    show PyData.shown (g x) :: PyData.shownAll (l.map g) = _
    rw [shownAll_map g l]
    rfl
theorem lens_map {α : Type} (g : α → Str) (b : Nat) : ∀ l : List α, (∀ x ∈ l, (g x).length ≤ b) → lens (l.map g) ≤ l.length * (b + 2)
  | [], _ => Nat.zero_le _
  | x :: l, h => by
    have ih := lens_map g b l fun y hy => h y (by simp [hy])
    have hx := h x (by simp)
    have e : lens ((x :: l).map g) = (g x).length + 2 + lens (l.map g) := by
      unfold lens
      rw [List.map_cons, List.map_cons, List.sum_cons]
    rw [e, List.length_cons, Nat.succ_mul]
    omega
theorem showAll_map {α : Type} (g : α → PyData) : ∀ l : List α, (∀ x ∈ l, PyData.showable (g x) = true) → PyData.showableAll (l.map g) = true
  | [], _ => rfl
  | x :: l, h => by
    show (PyData.showable (g x) && PyData.showableAll (l.map g)) = true
    rw [h x (by simp), showAll_map g l fun y hy => h y (by simp [hy])]
    rfl
/-- a small int: 0 to 9 -/
def Dig (i : Int) : Prop := 0 ≤ i ∧ i < 10
theorem dig_cases {i : Int} (h : Dig i) : i = 0 ∨ i = 1 ∨ i = 2 ∨ i = 3 ∨ i = 4 ∨ i = 5 ∨ i = 6 ∨ i = 7 ∨ i = 8 ∨ i = 9 := by
  obtain ⟨h1, h2⟩ := h
  omega
theorem show_int {i : Int} (h : Dig i) : PyData.showable (.int i) = true ∧ (PyData.shown (.int i)).length ≤ 1 := by
  rcases dig_cases h with rfl | rfl | rfl | rfl | rfl | rfl | rfl | rfl | rfl | rfl <;> exact ⟨by decide +kernel, by decide +kernel⟩
theorem show_dT {w : List Int} (h : ∀ x ∈ w, Dig x) : PyData.showable (dT w) = true ∧ (PyData.shown (dT w)).length ≤ 3 + w.length * 3 := by
  refine ⟨showAll_map PyData.int w fun x hx => (show_int (h x hx)).1, ?_⟩
  show (tupleText (PyData.shownAll (w.map PyData.int))).length ≤ _
  rw [shownAll_map]
  exact Nat.le_trans (tupleText_le _) (Nat.add_le_add_left (lens_map _ 1 w fun x hx => (show_int (h x hx)).2) _)
theorem show_dWs {ws : List (List Int)} {b : Nat} (h : ∀ w ∈ ws, w.length ≤ b ∧ ∀ x ∈ w, Dig x) : PyData.showable (dWs ws) = true ∧ (PyData.shown (dWs ws)).length ≤ 2 + ws.length * (5 + b * 3) := by
  refine ⟨showAll_map dT ws fun w hw => (show_dT (h w hw).2).1, ?_⟩
  show (listText (PyData.shownAll (ws.map dT))).length ≤ _
  rw [shownAll_map]
  refine Nat.le_trans (listText_le _) (Nat.add_le_add_left (Nat.le_trans (lens_map _ (3 + b * 3) ws fun w hw => ?_) (Nat.mul_le_mul_left _ (by omega))) _)
  have h1 := (show_dT (h w hw).2).2
  have h2 := Nat.mul_le_mul_right 3 (h w hw).1
  omega
theorem show_bool (b : Bool) : PyData.showable (.bool b) = true ∧ (PyData.shown (.bool b)).length ≤ 5 := by
  cases b <;> exact ⟨rfl, by decide +kernel⟩
def dPr (a b : PyData) : PyData := .list [a, b]
theorem show_dPr {a b : PyData} {n m : Nat} (ha : PyData.showable a = true ∧ (PyData.shown a).length ≤ n) (hb : PyData.showable b = true ∧ (PyData.shown b).length ≤ m) : PyData.showable (dPr a b) = true ∧ (PyData.shown (dPr a b)).length ≤ 6 + n + m := by
  refine ⟨by show (PyData.showable a && (PyData.showable b && true)) = true; rw [ha.1, hb.1]; rfl, ?_⟩
  show (listText [PyData.shown a, PyData.shown b]).length ≤ _
  have := listText_le [PyData.shown a, PyData.shown b]
  have e : lens [PyData.shown a, PyData.shown b] = (PyData.shown a).length + 2 + ((PyData.shown b).length + 2 + 0) := rfl
  rw [e] at this
  have h1 := ha.2
  have h2 := hb.2
  omega
theorem dep_dWs (ws : List (List Int)) : PyData.depth (dWs ws) ≤ 2 := Nat.succ_le_succ (depAll_map dT dep_dT ws)
theorem dep_dPr {a b : PyData} {n : Nat} (ha : PyData.depth a ≤ n) (hb : PyData.depth b ≤ n) : PyData.depth (dPr a b) ≤ n + 1 := by
  show max (PyData.depth a) (max (PyData.depth b) 0) + 1 ≤ n + 1
  omega
theorem cnt2_dig {r : Int × List Int} {row works : List Int} (ho : RowOk r row) (h6 : r.1 ≤ 6) : Dig (cnt2 r row works) := by
  have h1 := List.length_filter_le (fun x => !decide (x ∈ works)) row
  have h2 := ho.2.2
  unfold cnt2 Dig
  dsimp only
  split <;> omega
section
variable {X : Cx}
/-- t + u, whatever is empty -/
def rCat1 (K : PySem.W.Frag) : R2 := fun x y H Q => ∃ a b xs ys, x = .ref a ∧ y = .ref b ∧ SqT K H a xs ∧ SqT K H b ys ∧ xs.length + ys.length ≤ sizeLine ∧ ∀ p H', Same H H' → SqT K H' p (xs ++ ys) → Q (.ref p) H'
theorem op_cat1 : OpR X (binaryOp .Add) (rCat1 X.K) := by
  intro pins s σ H x y v u Q I rx ry h
  obtain ⟨a, b, xs, ys, rfl, rfl, ha, hb, hz, q⟩ := h
  exact op_catA pins s σ H _ _ v u Q I rx ry ⟨a, b, xs, ys, rfl, rfl, ha, hb, hz, fun e => q b H (Same.refl H) (by rw [e]; exact hb), fun _ e => q a H (Same.refl H) (by rw [e, List.append_nil]; exact ha), fun _ _ p np => q p _ (sameU np) (.inl (.inl upd_same))⟩
end
end Ew
namespace Ew
open PySem PySem.Spec PyProof.Rows L2
/-! ### the text by places -/
def top (i : Nat) : Stmt := PySem.Challenge.pw_eachworkread_k06_counts.main.body.getD i (.Pass ⟨0, 0, 0, 0⟩)
abbrev sFeed : Stmt := (top 19)
abbrev sTake : Stmt := (top 20)
abbrev sPick : Stmt := (top 21)
/-! ### promises -/
def spFeed (K : PySem.W.Frag) : Sp := fun vs H Q _ => ∃ (a : Addr) (ns : List Int) (k : Int), vs = [.ref a, .int k] ∧ SqL K H a (ns.map V.int) ∧ ns.length ≤ 63 ∧ 0 ≤ k ∧ k < 10 ∧
  ∀ H' p, Same H H' → H p = none → FeedAt H' p → Q (.ref p) H'
def spTake : Sp := fun vs H Q _ => ∃ (f : Addr) (m : Int), vs = [.ref f, .int m] ∧ FeedAt H f ∧ 0 < m ∧ m < 1000 ∧ ∀ H' r, Ext1 f H H' → 0 ≤ r → r < m → Q (.int r) H'
def spPick (K : PySem.W.Frag) : Sp := fun vs H Q _ => ∃ (f l : Addr) (xs : List V), vs = [.ref f, .ref l] ∧ FeedAt H f ∧ SqL K H l xs ∧ l ≠ f ∧ 0 < xs.length ∧ xs.length < 1000 ∧ ∀ H' v, Ext1 f H H' → v ∈ xs → Q v H'
section
variable {P : Program} {w : World} {K : PySem.W.Frag} {mg : Str → Option Value} {base : Heap}
theorem scFeed : FnScope ["script", "k", "seed", "digits"] ["script", "k"] (defScope sFeed) := ⟨rfl, rfl, rfl, by decide +kernel, rfl, by decide +kernel, by decide +kernel⟩
theorem cut_le (xs : List V) (a b : Option Int) : (cutV xs a b).length ≤ xs.length := by
  unfold cutV
  rw [List.length_take, List.length_drop]
  omega
theorem ok_feed {f : Addr} {fd : FuncData} (F : Fun K "_law_feed" "_law_feed" sFeed f fd) (B : Bi mg) : FnOk P w K mg base CX0 1 f fd ["script", "k"] (spFeed K) := by
  refine F.ok scFeed (fun vs H Q E h => ?_) (fun cdv A outer s H vs Q E hr h => ?_)
  · obtain ⟨a, ns, k, rfl, _⟩ := h
    rfl
  · obtain ⟨a, ns, k, rfl, hS, hl, h0, h10, q⟩ := h
    refine ⟨_, pss_cons (ps_set (i := 2) scFeed.nd rfl (.inl rfl)
        (pe_ix ix_list (pe_op op_cat (pe_callTy call_list_of (by rfl) B.list (by decide +kernel) (pa_cons (pe_slice sl_list (pv 0) (po_some (pv 1)) (po_some (pe_op op_add (pv 1) pe_int))) pa_nil))
          (pe_lst (pa_cons (pe_op op_add (pe_op op_mul pe_int (pv 1)) pe_int) pa_nil))) pe_int (fun _ _ => rfl)))
      (pss_cons (ps_set (i := 3) scFeed.nd rfl (.inl rfl) (pe_callB (call_max2 rfl) (by rfl) B.max (by decide +kernel) (pa_cons pe_int (pa_cons
          (pe_op op_sub (pe_callB call_abs (by rfl) B.abs (by decide +kernel) (pa_cons (pv 2) pa_nil)) (pe_op op_pow pe_int pe_int)) pa_nil))))
      (pss_one (ps_ret (pe_lst (pa_cons (pv 3) (pa_cons (pe_op op_mod (pe_callTy call_int1 (by rfl) B.int (by decide +kernel) (pa_cons
          (pe_op op_add (pe_op op_add (pe_op op_mul (pe_op op_mod (pe_callTy call_int1 (by rfl) B.int (by decide +kernel) (pa_cons (pe_callB call_abs (by rfl) B.abs (by decide +kernel) (pa_cons (pv 2) pa_nil)) pa_nil)) pe_int) pe_int)
            (pe_op op_mul pe_int (pv 1))) pe_int) pa_nil)) pe_int) pa_nil)))))), ?_⟩
    refine ⟨_, rfl, _, rfl, k, rfl, _, rfl, _, _, rfl, rfl, _, rfl, a, _, rfl, hS, fun c nc => ?_⟩
    have s1 : Same H (upd H c (.lst (cutV (ns.map V.int) (some k) (some (k + 1))))) := sameU nc
    have hc : (cutV (ns.map V.int) (some k) (some (k + 1))).length ≤ 63 := Nat.le_trans (cut_le _ _ _) (by rw [List.length_map]; exact hl)
    have hint : ∀ v ∈ cutV (ns.map V.int) (some k) (some (k + 1)), ∃ z, v = V.int z := by
      intro v hv
      unfold cutV at hv
      have := List.mem_of_mem_drop (List.mem_of_mem_take hv)
      obtain ⟨z, _, e⟩ := List.mem_map.mp this
      exact ⟨z, e.symm⟩
    generalize cutV (ns.map V.int) (some k) (some (k + 1)) = cs at *
    refine ⟨c, _, rfl, .inl (.inl (.inl upd_same)), fun l nl => ?_⟩
    refine ⟨_, rfl, 71, k, rfl, rfl, .inl ⟨by decide, by decide⟩, _, _, rfl, rfl, (by show 1 ≤ sizeLine; decide), fun m nm => ?_⟩
    have nlm : l ≠ m := fun e => by rw [e] at nm; rw [← e, upd_same] at nm; cases nm
    refine ⟨l, m, cs, _, rfl, rfl, (by rw [upd_ne nlm]; exact upd_same), upd_same, (szL (by show cs.length + 1 ≤ _; omega)), fun r nr => ?_⟩
    have sA : Same H (upd (upd (upd H c (.lst cs)) l (.lst cs)) m (.lst [V.int (71 * k + 23)])) := s1.trans ((sameU nl).trans (sameU nm))
    obtain ⟨z, hz⟩ : ∃ z, (cs ++ [V.int (71 * k + 23)])[0]? = some (V.int z) := by
      cases cs with
      | nil => exact ⟨_, rfl⟩
      | cons x t =>
        obtain ⟨z, e⟩ := hint x (by simp)
        exact ⟨z, by rw [e]; rfl⟩
    refine ⟨r, _, 0, _, rfl, rfl, .inl (.inl upd_same), atI_nat (j := 0) hz, ?_⟩
    have sB : Same H (upd (upd (upd (upd H c (.lst cs)) l (.lst cs)) m (.lst [V.int (71 * k + 23)])) r (.lst (cs ++ [V.int (71 * k + 23)]))) := sA.trans (sameU nr)
    generalize upd (upd (upd (upd H c (.lst cs)) l (.lst cs)) m (.lst [V.int (71 * k + 23)])) r (.lst (cs ++ [V.int (71 * k + 23)])) = H2 at *
    refine ⟨_, rfl, z, rfl, 10, 18, rfl, rfl, ⟨by decide, by decide, by decide⟩, _, _, rfl, rfl, _, _, rfl, ?_⟩
    refine ⟨_, rfl, _, rfl, z, rfl, .inl ⟨_, rfl, _, _, rfl, rfl, (by show (0 : Int) < 1000003; decide), _, _, rfl, rfl, .inr ⟨by decide, by decide⟩, _, rfl, 31, k, rfl, rfl, .inl ⟨by decide, by decide⟩, _, _, rfl, rfl, _, _, rfl, rfl, .inl ⟨_, rfl, _, _, rfl, rfl, (by show (0 : Int) < 1000033; decide), (by show 2 ≤ sizeLine; decide), fun p np => ?_⟩⟩⟩
    exact q _ p (sB.trans (sameU np)) (sB.free np) ⟨_, _, upd_same⟩
theorem scTake : FnScope ["feed", "many", "digit"] ["feed", "many"] (defScope sTake) := ⟨rfl, rfl, rfl, by decide +kernel, rfl, by decide +kernel, by decide +kernel⟩
theorem ok_take {f : Addr} {fd : FuncData} (F : Fun K "_law_take" "_law_take" sTake f fd) (B : Bi mg) : FnOk P w K mg base CX0 1 f fd ["feed", "many"] spTake := by
  refine F.ok scTake (fun vs H Q E h => ?_) (fun cdv A outer s H vs Q E hr h => ?_)
  · obtain ⟨a, m, rfl, _⟩ := h
    rfl
  · obtain ⟨a, m, rfl, ⟨d, z, hF⟩, m0, m1, q⟩ := h
    refine ⟨_, pss_cons (ps_if (pt_cmpR op_gt (pe_ix ix_list (pv 0) pe_int (fun _ _ => rfl)) pe_int (nomark _))
        (pss_cons (ps_set (i := 2) scTake.nd rfl (.inl rfl) (pe_op op_mod (pe_callTy call_int1 (by rfl) B.int (by decide +kernel) (pa_cons (pe_ix ix_list (pv 0) pe_int (fun _ _ => rfl)) pa_nil)) (pv 1)))
        (pss_cons (ps_asg (pe_op op_fdiv (pe_ix ix_list (pv 0) pe_int (fun _ _ => rfl)) (pv 1)) (pg_sub (pv 0) pe_int set_list)) (pss_one (ps_ret (pv 2))))) pss_nil)
      (pss_cons (ps_asg (pe_op op_mod (pe_callTy call_int1 (by rfl) B.int (by decide +kernel) (pa_cons (pe_op op_add (pe_op op_mul (pe_ix ix_list (pv 0) pe_int (fun _ _ => rfl)) pe_int) pe_int) pa_nil)) pe_int) (pg_sub (pv 0) pe_int set_list))
      (pss_one (ps_ret (pe_op op_mod (pe_callTy call_int1 (by rfl) B.int (by decide +kernel) (pa_cons (pe_op op_fdiv (pe_ix ix_list (pv 0) pe_int (fun _ _ => rfl)) pe_int) pa_nil)) (pv 1))))), ?_⟩
    refine ⟨_, rfl, a, _, 0, .int d, rfl, rfl, .inl (.inl hF), rfl, _, _, rfl, rfl, _, rfl, ite2 (fun _ => ?_) (fun _ => ?_)⟩
    · refine ⟨_, rfl, a, _, 0, .int d, rfl, rfl, .inl (.inl hF), rfl, .inl ⟨_, rfl, _, rfl, d, m, rfl, rfl, m0, ?_⟩⟩
      refine ⟨_, rfl, a, _, 0, .int d, rfl, rfl, .inl (.inl hF), rfl, _, rfl, d, m, rfl, rfl, ⟨m0, by omega⟩, _, rfl, a, _, 0, 0, rfl, rfl, hF, rfl, _, rfl, ?_⟩
      exact q _ _ Ext1.put (Int.emod_nonneg _ (by omega)) (Int.emod_lt_of_pos _ m0)
    · refine ⟨_, rfl, a, _, 1, .int z, rfl, rfl, .inl (.inl hF), rfl, z, 69069, rfl, rfl, .inr ⟨by decide, by decide⟩, _, _, rfl, rfl, .inl ⟨_, rfl, _, _, rfl, rfl, (by show (0 : Int) < 4294967311; decide), _, rfl, a, _, 1, 1, rfl, rfl, hF, rfl, ?_⟩⟩
      refine ⟨_, rfl, a, _, 1, _, rfl, rfl, .inl (.inl upd_same), rfl, _, 65536, rfl, rfl, ⟨by decide, by decide⟩, .inl ⟨_, rfl, _, rfl, _, m, rfl, rfl, m0, ?_⟩⟩
      exact q _ _ Ext1.put (Int.emod_nonneg _ (by omega)) (Int.emod_lt_of_pos _ m0)
theorem scPick : FnScope ["feed", "some"] ["feed", "some"] (defScope sPick) := ⟨rfl, rfl, rfl, by decide +kernel, rfl, by decide +kernel, by decide +kernel⟩
theorem ok_pick {f fT : Addr} {fd fdT : FuncData} (F : Fun K "_law_pick" "_law_pick" sPick f fd) (FT : Fun K "_law_take" "_law_take" sTake fT fdT) (bT : Binds K fdT ["feed", "many"] []) (gT : mg "_law_take" = some (.ref fT)) (B : Bi mg) : FnOk P w K mg base CX0 2 f fd ["feed", "some"] (spPick K) := by
  have GT : FnOk P w K mg base CX0 1 fT fdT ["feed", "many"] spTake := ok_take FT B
  refine F.ok scPick (fun vs H Q E h => ?_) (fun cdv A outer s H vs Q E hr h => ?_)
  · obtain ⟨a, l, xs, rfl, _⟩ := h
    rfl
  · obtain ⟨a, l, xs, rfl, hF, hL, nl, x0, x1, q⟩ := h
    refine ⟨_, pss_one (ps_ret (pe_ix ix_list (pv 1) (pe_call GT hr (by rfl) gT FT.kp bT .nil pass0 (pa_cons (pv 0) (pa_cons (pe_callB call_len_seq (by rfl) B.len PySem.boot_len (pa_cons (pv 1) pa_nil)) pa_nil))) (fun _ _ => rfl))), ?_⟩
    refine ⟨_, rfl, _, rfl, _, rfl, l, xs, rfl, .inl hL, a, _, rfl, hF, (by omega), (by omega), fun H1 r e1 r0 r1 => ?_⟩
    obtain ⟨j, rfl⟩ : ∃ j : Nat, r = (j : Int) := ⟨r.toNat, by omega⟩
    have hj : j < xs.length := by omega
    exact ⟨l, xs, (j : Int), xs[j], rfl, rfl, e1.sqL nl hL, atI_nat (by simp [hj]), q _ _ e1 (List.getElem_mem _)⟩
end
end Ew
namespace Ew
open PySem PySem.Spec PyProof.Rows L2
abbrev sRow : Stmt := (top 22)
def spRow (K : PySem.W.Frag) : Sp := fun vs H Q _ => ∃ (f : Addr) (v : V) (r : Int × List Int), vs = [.ref f, v] ∧ FeedAt H f ∧ RdT K H v r ∧ 0 ≤ r.1 ∧ r.1 ≤ 6 ∧ r.2.Pairwise (· < ·) ∧ r.2.length ≤ 60 ∧
  ∀ H' p w, Ext1 f H H' → H p = none → H' p = some (.tup (w.map V.int)) → RowOk r w → Q (.ref p) H'
theorem perm_get {α : Type} {rs : List α} {k : Nat} (h : k < rs.length) : rs.Perm (rs[k] :: rs.eraseIdx k) := by
  induction rs generalizing k with
  | nil => simp at h
  | cons a l ih =>
    cases k with
    | zero => simp
    | succ k =>
      have h' : k < l.length := by simpa using h
      have := ih h'
      simp only [List.getElem_cons_succ, List.eraseIdx_cons_succ]
      exact ((List.Perm.cons a this).trans (List.Perm.swap _ _ _))
theorem map_eraseIdx' {α β : Type} (g : α → β) : ∀ (l : List α) (k : Nat), (l.map g).eraseIdx k = (l.eraseIdx k).map g
  | [], _ => by simp
  | a :: l, 0 => by simp
  | a :: l, k + 1 => by simp [map_eraseIdx' g l k]
theorem lt_of_le_nodup {l : List Int} (h : l.Pairwise (· ≤ ·)) (n : l.Nodup) : l.Pairwise (· < ·) := by
  have n' : l.Pairwise (· ≠ ·) := n
  have := h.and n'
  exact this.imp fun ⟨h1, h2⟩ => by omega
section
variable {P : Program} {w : World} {K : PySem.W.Frag} {mg : Str → Option Value} {base : Heap}
theorem scRow : FnScope ["feed", "reader", "limit", "may", "rest", "found", "turn"] ["feed", "reader"] (defScope sRow) := ⟨rfl, rfl, rfl, by decide +kernel, rfl, by decide +kernel, by decide +kernel⟩
theorem ok_row {f fT : Addr} {fd fdT : FuncData} (F : Fun K "_law_row" "_law_row" sRow f fd) (FT : Fun K "_law_take" "_law_take" sTake fT fdT) (bT : Binds K fdT ["feed", "many"] []) (gT : mg "_law_take" = some (.ref fT)) (B : Bi mg) :
    FnOk P w K mg base CX0 2 f fd ["feed", "reader"] (spRow K) := by
  have GT : FnOk P w K mg base CX0 1 fT fdT ["feed", "many"] spTake := ok_take FT B
  refine F.ok scRow (fun vs H Q E h => ?_) (fun cdv A outer s H vs Q E hr h => ?_)
  · obtain ⟨a, v, r, rfl, _⟩ := h
    rfl
  · obtain ⟨a, v, ⟨lim, may⟩, rfl, hF, ⟨t, m, rfl, hT, hM⟩, l0, l6, hp, hlen, q⟩ := h
    replace hlen : may.length ≤ 60 := hlen
    replace l0 : 0 ≤ lim := l0
    replace l6 : lim ≤ 6 := l6
    replace hp : may.Pairwise (· < ·) := hp
    refine ⟨_, pss_cons (ps_asg (pv 1) (pg_tup (by rfl) (pgs_cons (pg_name (i := 2) scRow.nd rfl (.inl rfl)) (pgs_cons (pg_name (i := 3) scRow.nd rfl (.inl rfl)) pgs_nil))))
      (pss_cons (ps_par (i := 4) (j := 5) (by rfl) scRow.nd rfl rfl (by decide) rfl rfl (pa_cons (pe_callTy call_list_of (by rfl) B.list (by decide +kernel) (pa_cons (pv 3) pa_nil)) (pa_cons (pe_lst pa_nil) pa_nil)) (by rfl))
      (pss_cons (ps_for PassesOwn.never rfl (pi_range1 rfl B.range (pa_cons (pe_call GT hr (by rfl) gT FT.kp bT .nil pass0 (pa_cons (pv 0) (pa_cons (pe_op op_add pe_int (pe_callB (call_min2 rfl) (by rfl) B.min (by decide +kernel) (pa_cons (pv 2) (pa_cons (pe_callB call_len_seq (by rfl) B.len PySem.boot_len (pa_cons (pv 3) pa_nil)) pa_nil)))) pa_nil))) pa_nil))
          (pg_name (i := 6) scRow.nd rfl (.inl rfl))
          (pss_one (ps_expr (pe_bm PySem.F.plainAttrs_list PySem.F.slot_list_append PySem.F.type_list_append mt_append (pv 5) (pa_cons
            (pe_bm PySem.F.plainAttrs_list PySem.F.slot_list_pop PySem.F.type_list_pop mt_popAt (pv 4) (pa_cons (pe_call GT hr (by rfl) gT FT.kp bT .nil pass0 (pa_cons (pv 0) (pa_cons (pe_callB call_len_seq (by rfl) B.len PySem.boot_len (pa_cons (pv 4) pa_nil)) pa_nil))) pa_nil)) pa_nil)))))
      (pss_one (ps_ret (pe_callTy call_tuple_of (by rfl) B.tuple (by decide +kernel) (pa_cons (pe_callB cr_sorted (by rfl) B.sorted (by decide +kernel) (pa_cons (pv 5) pa_nil)) pa_nil)))))), ?_⟩
    -- limit, may = reader
    refine ⟨_, rfl, t, _, rfl, hT, rfl, _, _, rfl, _, _, rfl, rfl, ?_⟩
    -- rest, found
    refine ⟨_, rfl, m, _, rfl, .inr hM, fun R nR => ⟨Nat.zero_le _, fun Fd nFd => ⟨_, _, rfl, ?_⟩⟩⟩
    have nFd0 : H Fd = none := (sameU nR).free nFd
    have nFR : Fd ≠ R := fun e => by rw [e, upd_same] at nFd; cases nFd
    have e0 : Ext1 a H (upd (upd H R (.lst (may.map V.int))) Fd (.lst [])) := Ext1.new (Ext1.new (.refl hF) nR) nFd
    have fR : R ≠ a := hF.ne nR
    have fF : Fd ≠ a := hF.ne nFd0
    -- range(take(feed, 1 + min(limit, len(may))))
    refine ⟨_, rfl, _, rfl, _, rfl, m, _, rfl, .inr (e0.sqT hF hM), lim, _, rfl, _, _, rfl, rfl, a, _, rfl, e0.feed, ?_, ?_, fun H1 n e1 n0 n1 => ?_⟩
    · rw [List.length_map]; split <;> omega
    · rw [List.length_map]; split <;> omega
    rw [List.length_map] at n1
    replace n1 : n < 1 + (if (may.length : Int) < lim then (may.length : Int) else lim) := n1
    have n2 : n ≤ lim ∧ n ≤ may.length := by split at n1 <;> omega
    refine ⟨n, rfl, by omega, by omega, for_range (lo := 0) (n := n.toNat) (fun i σ H' => ∃ (rs fs : List Int) (y : Option V), σ = [some (.ref a), some (.ref t), some (.int lim), some (.ref m), some (.ref R), some (.ref Fd), y] ∧ (fs ++ rs).Perm may ∧ fs.length = i ∧
        H' R = some (.lst (rs.map V.int)) ∧ H' Fd = some (.lst (fs.map V.int)) ∧ Ext1 a H H') ⟨may, [], none, rfl, List.Perm.refl _, rfl, ?_, ?_, e0.trans e1⟩ ?_ ?_⟩
    · exact e1.1 _ _ fR (by rw [upd_ne nFR.symm]; exact upd_same)
    · exact e1.1 _ _ fF upd_same
    · rintro i σ H' hi ⟨rs, fs, y, rfl, pm, hl, hR, hFd, ex⟩
      have hsz : fs.length + rs.length = may.length := by rw [← List.length_append]; exact pm.length_eq
      refine ⟨_, rfl, .inl ⟨rfl, _, .inl (.inl hFd)⟩, ?_⟩
      refine ⟨_, rfl, .inl ⟨rfl, _, .inl (.inl hR)⟩, _, rfl, _, rfl, R, _, rfl, .inl (.inl (.inl hR)), a, _, rfl, ex.feed, by rw [List.length_map]; omega, by rw [List.length_map]; omega, fun H2 k e2 k0 k1 => ?_⟩
      rw [List.length_map] at k1
      have hR2 := e2.1 _ _ fR hR
      have hF2 := e2.1 _ _ fF hFd
      obtain ⟨j, rfl⟩ : ∃ j : Nat, k = (j : Int) := ⟨k.toNat, by omega⟩
      have hj : j < rs.length := by omega
      refine ⟨R, _, (j : Int), j, .int rs[j], rfl, rfl, hR2, by omega, by omega, ?_, by simp [hj], ?_⟩
      · rw [List.length_map]
        unfold seqIndex?
        simp
        omega
      · refine ⟨Fd, _, _, rfl, rfl, (by rw [upd_ne nFR]; exact hF2), szl (by rw [List.length_map]; omega), ?_⟩
        refine ⟨rs.eraseIdx j, fs ++ [rs[j]], some (.int (0 + (i : Int))), rfl, ?_, by simp [hl], ?_, ?_, ?_⟩
        · rw [List.append_assoc]
          exact (List.Perm.append_left fs (perm_get hj).symm).trans pm
        · rw [upd_ne nFR.symm, upd_same, map_eraseIdx']
        · rw [upd_same, List.map_append]
          rfl
        · exact ((ex.trans e2).own nR fR).own nFd0 fF
    · rintro σ H' ⟨rs, fs, y, rfl, pm, hl, hR, hFd, ex⟩
      have nd : may.Nodup := hp.imp fun h => by omega
      have hsz : fs.length + rs.length = may.length := by rw [← List.length_append]; exact pm.length_eq
      refine ⟨_, rfl, Fd, fs, rfl, .inl (.inl hFd), by omega, fun ns' p pm2 so np => ⟨p, _, rfl, .inl ⟨.inl (.inl upd_same), fun l nl => ?_⟩⟩⟩
      have ex2 : Ext1 a H (upd (upd H' p (.lst (ns'.map V.int))) l (.tup (ns'.map V.int))) := (ex.new np).new nl
      refine q _ l ns' ex2 ((ex.new np).free nl) upd_same ⟨?_, ?_, ?_⟩
      · have : (fs ++ rs).Nodup := pm.nodup_iff.mpr nd
        have nf : fs.Nodup := (List.nodup_append.mp this).1
        exact lt_of_le_nodup so (pm2.nodup_iff.mpr nf)
      · intro x hx
        exact pm.mem_iff.mp (List.mem_append_left _ (pm2.mem_iff.mp hx))
      · rw [pm2.length_eq, hl]
        show ((n.toNat : Nat) : Int) ≤ lim
        omega
end
end Ew
namespace Ew
open PySem PySem.Spec PyProof.Rows L2
abbrev sRows : Stmt := (top 23)
abbrev sTimes : Stmt := (top 24)
def RdsOk (rs : List (Int × List Int)) : Prop := ∀ r ∈ rs, 0 ≤ r.1 ∧ r.1 ≤ 6 ∧ r.2.Pairwise (· < ·) ∧ r.2.length ≤ 60
def spRows (K : PySem.W.Frag) : Sp := fun vs H Q _ => ∃ (f R ab : Addr) (rs : List (Int × List Int)) (as : List Int), vs = [.ref f, .ref R, .ref ab] ∧ FeedAt H f ∧ R ≠ f ∧ RdL K H R rs ∧ RdsOk rs ∧ rs.length ≤ 60 ∧ SqT K H ab (as.map V.int) ∧
  ∀ H' p vs ws, Ext1 f H H' → H p = none → H' p = some (.lst vs) → Paired (RowT K H') vs ws → Paired RowOk rs ws → (∀ i w, ws[i]? = some w → ((i : Nat) : Int) ∈ as → w = []) → Q (.ref p) H'
theorem flat_ints (l : List Int) : (l.map V.int).all flatV = true := by
  rw [List.all_map]
  exact List.all_eq_true.mpr fun _ _ => rfl
theorem inV_int (i : Int) (l : List Int) : inV (.int i) (l.map V.int) = decide (i ∈ l) := by
  unfold inV
  rw [List.any_map]
  induction l with
  | nil => rfl
  | cons a l ih =>
    rw [List.any_cons, ih]
    have e : ((fun y => eqV y (V.int i)) ∘ V.int) a = decide (a = i) := by
      show eqV (V.int a) (V.int i) = _
      by_cases h : a = i
      · subst h
        simp [eqV]
      · simp [eqV, h]
    rw [e]
    by_cases h : a = i
    · subst h; simp
    · have h' : ¬ i = a := fun e => h e.symm
      simp [h, h']
theorem Paired.len {α β : Type} {R : α → β → Prop} : ∀ {xs : List α} {ys : List β}, Paired R xs ys → xs.length = ys.length
  | _, _, .nil => rfl
  | _, _, .cons _ t => by simp [Paired.len t]
theorem Paired.take {α β : Type} {R : α → β → Prop} : ∀ {xs : List α} {ys : List β} (n : Nat), Paired R xs ys → Paired R (xs.take n) (ys.take n)
  | _, _, 0, _ => .nil
  | _, _, _ + 1, .nil => .nil
  | _, _, n + 1, .cons r t => .cons r (Paired.take n t)
section
variable {P : Program} {w : World} {K : PySem.W.Frag} {mg : Str → Option Value} {base : Heap}
theorem scRows : FnScope ["feed", "readers", "absent", "at", "reader"] ["feed", "readers", "absent"] (defScope sRows) := ⟨rfl, rfl, rfl, by decide +kernel, rfl, by decide +kernel, by decide +kernel⟩
theorem ok_rows {f fT fR : Addr} {fd fdT fdR : FuncData} (F : Fun K "_law_rows" "_law_rows" sRows f fd) (FT : Fun K "_law_take" "_law_take" sTake fT fdT) (bT : Binds K fdT ["feed", "many"] []) (gT : mg "_law_take" = some (.ref fT))
    (FR : Fun K "_law_row" "_law_row" sRow fR fdR) (bR : Binds K fdR ["feed", "reader"] []) (gR : mg "_law_row" = some (.ref fR)) (B : Bi mg) :
    FnOk P w K mg base CX0 3 f fd ["feed", "readers", "absent"] (spRows K) := by
  have GR : FnOk P w K mg base CX0 2 fR fdR ["feed", "reader"] (spRow K) := ok_row FR FT bT gT B
  refine F.ok scRows (fun vs H Q E h => ?_) (fun cdv A outer s H vs Q E hr h => ?_)
  · obtain ⟨a, R, ab, rs, as, rfl, _⟩ := h
    rfl
  · obtain ⟨a, R, ab, rs, as, rfl, hF, nR, ⟨us, hL, hP⟩, hok, hlen, hA, q⟩ := h
    refine ⟨_, pss_one (ps_ret (pe_lc (own := [("at", 3), ("reader", 4)]) (g := gTup K 2 (gCons (gName 3) (gCons (gName 4) gNil))) (tt := tYes) (te := tIf (tTest (tOp (rIn K false) (tVar 3) (tVar 2))) (tTup tNil) (tCall (spRow K) [] E0 (tCons (tVar 0) (tCons (tVar 4) tNil)))) rfl scRows.nd (pi_enum (by rfl) B.enumerate (pa_cons (pv 1) pa_nil)) (blkOk_by (own := [("at", 3), ("reader", 4)]) (N := ["feed", "readers", "absent", "at", "reader"]) (sc := defScope sRows) (by decide +kernel))
      (fun _ _ _ _ _ => pg_tup (by rfl) (pgs_cons (pg_name (i := 3) scRows.nd rfl (.inl rfl)) (pgs_cons (pg_name (i := 4) scRows.nd rfl (.inl rfl)) pgs_nil))) (fun _ _ _ _ _ => pts_nil)
      (fun _ _ _ _ _ => pe_ifExp (pt_cmpR op_in_seq (pv 3) (pv 2) (by rfl)) (pe_tup pa_nil) (pe_call GR hr (by rfl) gR FR.kp bR .nil pass0 (pa_cons (pv 0) (pa_cons (pv 4) pa_nil)))))), ?_⟩
    refine ⟨_, rfl, R, us, rfl, hL, fun D nD => ?_⟩
    have fD : D ≠ a := hF.ne nD
    refine lc_it (walk_enum (xs := us)) (fun i H' => ∃ (vs : List V) (ws : List (List Int)), Ext1 a H H' ∧ H' D = some (.lst vs) ∧ Paired (RowT K H') vs ws ∧ Paired RowOk (rs.take i) ws ∧ (∀ i w, ws[i]? = some w → ((i : Nat) : Int) ∈ as → w = []))
      ⟨[], [], (Ext1.refl hF).new nD, upd_same, .nil, .nil, fun i w e => by simp at e⟩ (fun i H' _ ⟨_, _, e, _⟩ => e.sqL nR hL) ?_ ?_
    · rintro i x H1 H2 hi ⟨vs, ws, e1, hD, p1, p2, p3⟩ ⟨T, x1, x2, rfl, nT, rfl, f1, f2⟩
      obtain ⟨r, hr2, rd⟩ := Paired.at1 hP f2
      have eT : Ext1 a H (upd H1 T (.tup [x1, x2])) := e1.new nT
      have sT : Same H1 (upd H1 T (.tup [x1, x2])) := sameU nT
      obtain rfl : V.int (i : Nat) = x1 := Option.some.inj f1
      refine ⟨T, _, rfl, .inl (.inl upd_same), rfl, _, _, rfl, _, _, rfl, rfl, rfl, ?_⟩
      have hlw : ws.length = i := by
        rw [← Paired.len p2, List.length_take]
        have := Paired.len hP
        omega
      have hlv : vs.length = i := by rw [Paired.len p1]; exact hlw
      have hil : i < 60 := by have := Paired.len hP; omega
      have hrm : r ∈ rs := List.mem_of_getElem? hr2
      obtain ⟨g1, g2, g3, g4⟩ := hok r hrm
      dsimp only [tYes]
      refine iteT ?_
      refine ⟨_, rfl, _, rfl, ab, _, rfl, .inr (eT.sqT hF hA), rfl, flat_ints as, _, rfl, ?_⟩
      have step : ∀ (H3 : Hp) (p : Addr) (w : List Int), Same (upd H1 T (.tup [V.int (i : Nat), x2])) H3 ∨ Ext1 a (upd H1 T (.tup [V.int (i : Nat), x2])) H3 → H3 p = some (.tup (w.map V.int)) → RowOk r w → (((i : Nat) : Int) ∈ as → w = []) →
          ∃ acc, H3 D = some (.lst acc) ∧ acc.length < sizeLine ∧ ∃ (vs : List V) (ws : List (List Int)), Ext1 a H (upd H3 D (.lst (acc ++ [.ref p]))) ∧ (upd H3 D (.lst (acc ++ [.ref p]))) D = some (.lst vs) ∧ Paired (RowT K (upd H3 D (.lst (acc ++ [.ref p])))) vs ws ∧ Paired RowOk (rs.take (i + 1)) ws ∧ (∀ i w, ws[i]? = some w → ((i : Nat) : Int) ∈ as → w = []) := by
        intro H3 p w hs hp ro hw
        have e3 : Ext1 a (upd H1 T (.tup [V.int (i : Nat), x2])) H3 := by
          rcases hs with hs | hs
          · exact .same eT.feed hs
          · exact hs
        have hD3 : H3 D = some (.lst vs) := e3.1 _ _ fD (sT _ _ hD)
        have hP3 : RowT K H3 (.ref p) w := ⟨p, rfl, .inl (.inl hp)⟩
        refine ⟨vs, hD3, szl (by omega), vs ++ [.ref p], ws ++ [w], (eT.trans e3).own nD fD, upd_same, ?_, ?_, ?_⟩
        · exact Paired.snoc (L2.Paired.mapP p1 fun _ _ z => RowT.upd hD3 ((z.same sT).ext e3 eT.feed)) (RowT.upd hD3 hP3)
        · rw [take_more hr2]
          exact Paired.snoc p2 ro
        · intro i' w' he hm
          rcases Nat.lt_or_ge i' ws.length with h | h
          · rw [List.getElem?_append_left h] at he
            exact p3 _ _ he hm
          · rw [List.getElem?_append_right h] at he
            have h0 : i' - ws.length = 0 := by
              cases hz : i' - ws.length with
              | zero => rfl
              | succ n => rw [hz] at he; simp at he
            rw [h0] at he
            have : w = w' := by simpa using he
            subst this
            have : i' = i := by omega
            subst this
            exact hw hm
      by_cases hin : ((i : Nat) : Int) ∈ as
      · have e : inV (V.int (i : Nat)) (as.map V.int) = true := by rw [inV_int]; exact decide_eq_true hin
        rw [e]
        refine iteT ⟨Nat.zero_le _, fun p np => ?_⟩
        exact step _ p [] (.inl (sameU np)) upd_same ⟨.nil, fun x hx => by simp at hx, by simpa using g1⟩ fun _ => rfl
      · have e : inV (V.int (i : Nat)) (as.map V.int) = false := by rw [inV_int]; exact decide_eq_false hin
        rw [e]
        refine iteF ⟨_, rfl, _, rfl, a, x2, r, rfl, eT.feed, (rd.ext eT hF), g1, g2, g3, g4, fun H3 p w e3 np hp ro => ?_⟩
        exact step _ p w (.inr e3) hp ro fun h => absurd h hin
    · rintro H' ⟨vs, ws, e1, hD, p1, p2, p3⟩
      rw [Paired.len hP, List.take_length] at p2
      exact q H' D vs ws e1 nD hD p1 p2 p3
end
end Ew
namespace Ew
open PySem PySem.Spec PyProof.Rows L2
/-- the scope of the comprehension that a def returns -/
def retScope (s : Stmt) : Scope := match defBody s with
  | [.Return (some (.ListComp _ _ sc _)) _] => sc
  | _ => { kind := .function, names := [], isGenerator := false, isCoroutine := false }
def times (ws : List (List Int)) (n : Nat) : List Int := (List.range n).map fun (k : Nat) => ((ws.filter fun r => decide (((k : Nat) : Int) ∈ r)).length : Int)
def spTimes (K : PySem.W.Frag) : Sp := fun vs H Q _ => ∃ (R : Addr) (us : List V) (ws : List (List Int)) (n : Nat), vs = [.ref R, .int n] ∧ SqL K H R us ∧ Paired (RowT K H) us ws ∧ ws.length ≤ 60 ∧ n ≤ 60 ∧
  ∀ H' p, Same H H' → H p = none → H' p = some (.lst ((times ws n).map V.int)) → Q (.ref p) H'
section
variable {P : Program} {w : World} {K : PySem.W.Frag} {mg : Str → Option Value} {base : Heap}
theorem scTimes : FnScope ["rows", "works", "work", "row"] ["rows", "works"] (defScope sTimes) := ⟨rfl, rfl, rfl, by decide +kernel, rfl, by decide +kernel, by decide +kernel⟩
theorem filter_take_snoc {α : Type} (g : α → Bool) {l : List α} {i : Nat} {x : α} (h : l[i]? = some x) : (l.take (i + 1)).filter g = (l.take i).filter g ++ (if g x = true then [x] else []) := by
  rw [take_more h, List.filter_append]
  by_cases e : g x = true
  · rw [if_pos e]; simp [e]
  · rw [if_neg e]; simp [e]
theorem same_own {H H1 : Hp} {D : Addr} {o : HO} (s : Same H H1) (n : H D = none) : Same H (upd H1 D o) := fun b u e => by
  rw [upd_ne (ne_of_none e n)]
  exact s _ _ e
theorem ok_times {f : Addr} {fd : FuncData} (F : Fun K "_law_times" "_law_times" sTimes f fd) (B : Bi mg) : FnOk P w K mg base CX0 1 f fd ["rows", "works"] (spTimes K) := by
  refine F.ok scTimes (fun vs H Q E h => ?_) (fun cdv A outer s H vs Q E hr h => ?_)
  · obtain ⟨R, us, ws, n, rfl, _⟩ := h
    rfl
  · obtain ⟨R, us, ws, n, rfl, hL, hP, hlen, hn, q⟩ := h
    refine ⟨_, pss_one (ps_ret (pe_lc (own := [("work", 2)]) (g := gName 2) (tt := tYes)
      (te := tCB (fun xs H Q => ∃ p ys, xs = [.ref p] ∧ (SqL K H p ys ∨ SqT K H p ys) ∧ Q (.int ys.length) H) (tCons (tLc (iList K (tVar 0)) (gName 3) (tTest (tOp (rIn K false) (tVar 2) (tVar 3))) (tVar 3) [3]) tNil))
      rfl scTimes.nd (pi_range1 rfl B.range (pa_cons (pv 1) pa_nil)) (blkOk_by (own := [("work", 2)]) (N := ["rows", "works", "work", "row"]) (sc := defScope sTimes) (by decide +kernel))
      (fun _ _ _ _ _ => pg_name (i := 2) scTimes.nd rfl (.inr rfl)) (fun _ _ _ _ _ => pts_nil)
      (fun _ _ _ _ _ => pe_callB call_len_seq (by rfl) B.len PySem.boot_len (pa_cons
        (pe_lc (own := [("row", 3)]) (g := gName 3) (tt := tTest (tOp (rIn K false) (tVar 2) (tVar 3))) (te := tVar 3) rfl scTimes.nd (pi_list (pv 0)) (blkOk_by (own := [("row", 3)]) (N := ["rows", "works", "work", "row"]) (sc := relS (retScope sTimes) (defScope sTimes)) (by decide +kernel))
          (fun _ _ _ _ _ => pg_name (i := 3) scTimes.nd rfl (.inl rfl)) (fun _ _ _ _ _ => pts_one (pt_cmpR op_in_seq (pv 2) (pv 3) (by rfl))) (fun _ _ _ _ _ => pv 3)) pa_nil)))), ?_⟩
    have tk : ∀ i, i < n → (times ws n)[i]? = some (((ws.filter fun r => decide (((i : Nat) : Int) ∈ r)).length : Nat) : Int) := fun i hi => by
      unfold times
      rw [List.getElem?_map, List.getElem?_range hi]
      rfl
    have tl : (times ws n).length = n := by
      unfold times
      rw [List.length_map, List.length_range]
    refine ⟨_, rfl, n, rfl, by omega, by omega, fun D nD => ?_⟩
    refine lc_range (lo := 0) (n := ((n : Nat) : Int).toNat) (fun i H' => Same H H' ∧ H' D = some (.lst (((times ws n).take i).map V.int))) ⟨sameU nD, upd_same⟩ ?_ ?_
    · rintro i H1 hi ⟨s1, hD⟩
      have hi' : i < n := by simpa using hi
      refine ⟨rfl, ?_⟩
      dsimp only [tYes]
      refine iteT ?_
      refine ⟨_, rfl, R, rfl, ⟨_, s1.seq hL⟩, fun D2 nD2 => ?_⟩
      refine lc_list (K := K) (a := R) (xs := us) (fun j H' => ∃ vs, Same H1 H' ∧ H' D2 = some (.lst vs) ∧ vs.length = ((ws.take j).filter fun r => decide (((i : Nat) : Int) ∈ r)).length) ⟨[], sameU nD2, upd_same, rfl⟩ (fun j H' _ ⟨_, e, _⟩ => e.seq (s1.seq hL)) ?_ ?_
      · rintro j x H2 hx ⟨vs, s2, hD2, el⟩
        obtain ⟨r, hr2, t, rfl, hT⟩ := Paired.at1 hP hx
        have hT2 : SqT K H2 t (r.map V.int) := sameT s2 (sameT s1 hT)
        refine ⟨rfl, _, rfl, _, rfl, t, _, rfl, .inr hT2, rfl, flat_ints r, _, rfl, ?_⟩
        have ez : (0 : Int) + ((i : Nat) : Int) = ((i : Nat) : Int) := Int.zero_add _
        rw [ez, if_neg Bool.false_ne_true, inV_int]
        have st := filter_take_snoc (fun r => decide (((i : Nat) : Int) ∈ r)) hr2
        have hvl : vs.length ≤ 60 := by
          rw [el]
          refine Nat.le_trans (List.length_filter_le _ _) ?_
          rw [List.length_take]; omega
        refine ite2 (fun c => ?_) (fun c => ?_)
        · refine ⟨_, rfl, vs, hD2, szl (by omega), vs ++ [.ref t], same_own s2 nD2, upd_same, ?_⟩
          rw [st, if_pos c, List.length_append, List.length_append, el]
          rfl
        · refine ⟨vs, s2, hD2, ?_⟩
          rw [st, if_neg c, List.append_nil]
          exact el
      · rintro H2 ⟨vs, s2, hD2, el⟩
        have nd : D ≠ D2 := ne_of_none hD nD2
        refine ⟨D2, vs, rfl, .inl (.inl (.inl hD2)), _, s2 _ _ hD, szl (by rw [List.length_map, List.length_take]; omega), same_own (s1.trans s2) nD, ?_⟩
        have el' : vs.length = (ws.filter fun r => decide (((i : Nat) : Int) ∈ r)).length := by
          rw [el, Paired.len hP, List.take_length]
        rw [upd_same, take_more (tk i hi'), List.map_append, el']
        rfl
    · rintro H' ⟨s1, hD⟩
      refine q H' D s1 nD ?_
      rw [hD]
      rw [List.take_of_length_le (by rw [tl]; exact Nat.le_of_eq (Int.toNat_natCast n).symm)]
end
end Ew
namespace Ew
open PySem PySem.Spec PyProof.Rows L2
abbrev sBook : Stmt := (top 25)
def RdsAt (n : Int) (rs : List (Int × List Int)) : Prop := ∀ r ∈ rs, RdOk n r
/-- the demands at A, the readers at R -/
structure BookAt (K : PySem.W.Frag) (H : Hp) (A R : Addr) (ds : List Int) (us : List V) (rs : List (Int × List Int)) : Prop where
  dem : H A = some (.lst (ds.map V.int))
  rd : H R = some (.lst us)
  rds : Paired (RdT K H) us rs
  n1 : 1 ≤ ds.length
  n6 : ds.length ≤ 6
  d6 : ∀ d ∈ ds, 0 ≤ d ∧ d ≤ 6
  r6 : rs.length ≤ 6
  ok : RdsAt ds.length rs
  ne : A ≠ R
def spBook (K : PySem.W.Frag) : Sp := fun vs H Q _ => ∃ (f : Addr) (mw mr : Int), vs = [.ref f, .int mw, .int mr] ∧ FeedAt H f ∧ 1 ≤ mw ∧ mw ≤ 6 ∧ 0 ≤ mr ∧ mr ≤ 6 ∧
  ∀ H' p A R ds us rs, Ext1 f H H' → H p = none → H A = none → H R = none → H' p = some (.lst [.ref A, .ref R]) → BookAt K H' A R ds us rs → p ≠ A → p ≠ R → ds.length ≤ mw → rs.length ≤ mr → Q (.ref p) H'
theorem mem_map_int {v : V} {l : List Int} (h : v ∈ l.map V.int) : ∃ i, v = .int i ∧ i ∈ l := by
  obtain ⟨i, h1, h2⟩ := List.mem_map.mp h
  exact ⟨i, h2.symm, h1⟩
theorem asc_len : ∀ {l : List Int} {lo n : Int}, l.Pairwise (· < ·) → (∀ x ∈ l, lo ≤ x ∧ x < n) → lo ≤ n → (l.length : Int) ≤ n - lo
  | [], lo, n, _, _, h => by simp; omega
  | x :: l, lo, n, hp, hb, h => by
    have hx := hb x (by simp)
    have hp' := List.pairwise_cons.mp hp
    have := asc_len (l := l) (lo := x + 1) (n := n) hp'.2 (fun y hy => ⟨by have := hp'.1 y hy; omega, (hb y (by simp [hy])).2⟩) (by omega)
    simp only [List.length_cons]
    omega
theorem Asc.len {n : Int} {l : List Int} (h : Asc n l) (hn : 0 ≤ n) : (l.length : Int) ≤ n := by
  have := asc_len h.1 h.2 hn
  omega
theorem rdsOk_of {n : Int} {rs : List (Int × List Int)} (h : RdsAt n rs) (h0 : 0 ≤ n) (h6 : n ≤ 6) : RdsOk rs := fun r hr => by
  obtain ⟨a, b, c⟩ := h r hr
  have := c.len h0
  exact ⟨a, b, c.1, by omega⟩
theorem times_len (ws : List (List Int)) (n : Nat) : (times ws n).length = n := by
  unfold times
  rw [List.length_map, List.length_range]
theorem times_le (ws : List (List Int)) (n : Nat) : ∀ d ∈ times ws n, 0 ≤ d ∧ d ≤ (ws.length : Int) := by
  intro d hd
  unfold times at hd
  obtain ⟨k, _, rfl⟩ := List.mem_map.mp hd
  have := List.length_filter_le (fun r => decide (((k : Nat) : Int) ∈ r)) ws
  omega
section
variable {P : Program} {w : World} {K : PySem.W.Frag} {mg : Str → Option Value} {base : Heap}
/-- what stands of the law's small defs -/
structure Low (K : PySem.W.Frag) (mg : Str → Option Value) : Prop where
  bi : Bi mg
  feed : ∃ f fd, Fun K "_law_feed" "_law_feed" sFeed f fd ∧ Binds K fd ["script", "k"] [] ∧ mg "_law_feed" = some (.ref f)
  take : ∃ f fd, Fun K "_law_take" "_law_take" sTake f fd ∧ Binds K fd ["feed", "many"] [] ∧ mg "_law_take" = some (.ref f)
  pick : ∃ f fd, Fun K "_law_pick" "_law_pick" sPick f fd ∧ Binds K fd ["feed", "some"] [] ∧ mg "_law_pick" = some (.ref f)
  row : ∃ f fd, Fun K "_law_row" "_law_row" sRow f fd ∧ Binds K fd ["feed", "reader"] [] ∧ mg "_law_row" = some (.ref f)
  rows : ∃ f fd, Fun K "_law_rows" "_law_rows" sRows f fd ∧ Binds K fd ["feed", "readers", "absent"] [] ∧ mg "_law_rows" = some (.ref f)
  times : ∃ f fd, Fun K "_law_times" "_law_times" sTimes f fd ∧ Binds K fd ["rows", "works"] [] ∧ mg "_law_times" = some (.ref f)
  book : ∃ f fd, Fun K "_law_book" "_law_book" sBook f fd ∧ Binds K fd ["feed", "most_works", "most_readers"] [] ∧ mg "_law_book" = some (.ref f)
theorem scBook : FnScope ["feed", "most_works", "most_readers", "works", "readers", "wide", "turn", "may", "work", "demands"] ["feed", "most_works", "most_readers"] (defScope sBook) := ⟨rfl, rfl, rfl, by decide +kernel, rfl, by decide +kernel, by decide +kernel⟩
theorem ok_book {f : Addr} {fd : FuncData} (F : Fun K "_law_book" "_law_book" sBook f fd) (L : Low K mg) : FnOk P w K mg base CX0 4 f fd ["feed", "most_works", "most_readers"] (spBook K) := by
  obtain ⟨B, _, ⟨fT, fdT, FT, bT, gT⟩, ⟨fP, fdP, FP, bP, gP⟩, ⟨fR, fdR, FR, bR, gR⟩, ⟨fS, fdS, FS, bS, gS⟩, ⟨fM, fdM, FM, bM, gM⟩, _⟩ := L
  have GT : FnOk P w K mg base CX0 1 fT fdT ["feed", "many"] spTake := ok_take FT B
  have GP : FnOk P w K mg base CX0 2 fP fdP ["feed", "some"] (spPick K) := ok_pick FP FT bT gT B
  have GS : FnOk P w K mg base CX0 3 fS fdS ["feed", "readers", "absent"] (spRows K) := ok_rows FS FT bT gT FR bR gR B
  have GM : FnOk P w K mg base CX0 1 fM fdM ["rows", "works"] (spTimes K) := ok_times FM B
  refine F.ok scBook (fun vs H Q E h => ?_) (fun cdv A outer s H vs Q E hr h => ?_)
  · obtain ⟨a, mw, mr, rfl, _⟩ := h
    rfl
  · obtain ⟨a, mw, mr, rfl, hF, w1, w6, r0, r6, q⟩ := h
    have hr1 : Room 1 _ := hr.mono (by decide)
    have hr2 : Room 2 _ := hr.mono (by decide)
    refine ⟨_, pss_cons (ps_par (i := 3) (j := 4) (by rfl) scBook.nd rfl rfl (by decide) rfl rfl (pa_cons (pe_op op_add pe_int (pe_call GT hr1 (by rfl) gT FT.kp bT .nil pass0 (pa_cons (pv 0) (pa_cons (pv 1) pa_nil)))) (pa_cons (pe_lst pa_nil) pa_nil)) (by rfl))
      (pss_cons (ps_set (i := 5) scBook.nd rfl (.inr rfl) (pe_call GT hr1 (by rfl) gT FT.kp bT .nil pass0 (pa_cons (pv 0) (pa_cons pe_int pa_nil))))
      (pss_cons (ps_for PassesOwn.never rfl (pi_range1 rfl B.range (pa_cons (pe_call GT hr1 (by rfl) gT FT.kp bT .nil pass0 (pa_cons (pv 0) (pa_cons (pe_op op_add (pv 2) pe_int) pa_nil))) pa_nil)) (pg_name (i := 6) scBook.nd rfl (.inl rfl))
        (pss_cons (ps_setLc (i := 7) (own := [("work", 8)]) (g := gName 8) (tt := tTest (tOp (rI0 fun i j => .bl (decide (i < j))) (tCall spTake [] E0 (tCons (tVar 0) (tCons (tC (.int 3)) tNil))) (tOp (rI0 fun i j => .int (i + j)) (tC (.int 1)) (tVar 5)))) (te := tVar 8)
            (by rfl) scBook.nd rfl rfl (sw_true rfl rfl rfl (by decide +kernel)) (pi_range1 rfl B.range (pa_cons (pv 3) pa_nil))
            (blkOk_by (own := [("work", 8)]) (N := ["feed", "most_works", "most_readers", "works", "readers", "wide", "turn", "may", "work", "demands"]) (sc := defScope sBook) (by decide +kernel))
            (fun _ _ _ _ _ => pg_name (i := 8) scBook.nd rfl (.inl rfl))
            (fun _ _ _ _ _ => pts_one (pt_cmpR op_lt (pe_call GT hr1 (by rfl) gT FT.kp bT .nil pass0 (pa_cons (pv 0) (pa_cons pe_int pa_nil))) (pe_op op_add pe_int (pv 5)) (nomark _))) (fun _ _ _ _ _ => pv 8))
        (pss_one (ps_expr (pe_bm PySem.F.plainAttrs_list PySem.F.slot_list_append PySem.F.type_list_append mt_append (pv 4) (pa_cons (pe_tup (pa_cons
            (pe_call GP hr2 (by rfl) gP FP.kp bP .nil pass0 (pa_cons (pv 0) (pa_cons (pe_lst (pa_cons pe_int (pa_cons pe_int (pa_cons pe_int (pa_cons pe_int (pa_cons pe_int (pa_cons pe_int (pa_cons pe_int (pa_cons pe_int (pa_cons pe_int (pa_cons pe_int pa_nil))))))))))) pa_nil)))
            (pa_cons (pe_callTy call_tuple_of (by rfl) B.tuple (by decide +kernel) (pa_cons (pv 7) pa_nil)) pa_nil))) pa_nil))))))
      (pss_cons (ps_set (i := 9) scBook.nd rfl (.inl rfl) (pe_call GM hr1 (by rfl) gM FM.kp bM .nil pass0 (pa_cons (pe_call GS hr (by rfl) gS FS.kp bS .nil pass0 (pa_cons (pv 0) (pa_cons (pv 4) (pa_cons (pe_tup pa_nil) pa_nil)))) (pa_cons (pv 3) pa_nil))))
      (pss_cons (ps_for PassesOwn.never rfl (pi_range1 rfl B.range (pa_cons (pe_call GP hr2 (by rfl) gP FP.kp bP .nil pass0 (pa_cons (pv 0) (pa_cons (pe_lst (pa_cons pe_int (pa_cons pe_int (pa_cons pe_int (pa_cons pe_int (pa_cons pe_int (pa_cons pe_int pa_nil))))))) pa_nil))) pa_nil)) (pg_name (i := 6) scBook.nd rfl (.inl rfl))
        (pss_one (ps_asg (pe_call GP hr2 (by rfl) gP FP.kp bP .nil pass0 (pa_cons (pv 0) (pa_cons (pe_lst (pa_cons pe_int (pa_cons pe_int (pa_cons pe_int (pa_cons pe_int (pa_cons pe_int (pa_cons pe_int pa_nil))))))) pa_nil)))
          (pg_sub (pv 9) (pe_call GT hr1 (by rfl) gT FT.kp bT .nil pass0 (pa_cons (pv 0) (pa_cons (pv 3) pa_nil))) set_list))))
      (pss_one (ps_ret (pe_lst (pa_cons (pv 9) (pa_cons (pv 4) pa_nil))))))))), ?_⟩
    refine ⟨_, rfl, _, rfl, a, mw, rfl, hF, by omega, by omega, fun H1 n e1 n0 n1 => ?_⟩
    obtain ⟨wn, ew⟩ : ∃ wn : Nat, 1 + n = (wn : Int) := ⟨(1 + n).toNat, by omega⟩
    refine ⟨_, _, rfl, rfl, Nat.zero_le _, fun R nR => ⟨.int wn, .ref R, by rw [← ew], ?_⟩⟩
    have hw1 : 1 ≤ wn := by omega
    have hw6 : wn ≤ 6 := by omega
    have hwm : (wn : Int) ≤ mw := by omega
    have nR0 : H R = none := e1.free nR
    have fR : R ≠ a := hF.ne nR0
    have e1' : Ext1 a H (upd H1 R (.lst [])) := e1.new nR
    refine ⟨_, rfl, a, 3, rfl, e1'.feed, by decide, by decide, fun H2 wd e2 wd0 wd1 => ?_⟩
    refine ⟨_, rfl, _, rfl, _, _, rfl, rfl, a, _, rfl, e2.feed, by omega, by omega, fun H3 n3 e3 n30 n31 => ⟨n3, rfl, by omega, by omega, ?_⟩⟩
    have e3' : Ext1 a H H3 := e1'.trans (e2.trans e3)
    refine for_range (lo := 0) (n := n3.toNat) (fun i σ H' => ∃ (us : List V) (rs : List (Int × List Int)) (y6 y7 : Option V), σ = [some (.ref a), some (.int mw), some (.int mr), some (.int wn), some (.ref R), some (.int wd), y6, y7, none, none] ∧ Ext1 a H H' ∧ H' R = some (.lst us) ∧
        Paired (RdT K H') us rs ∧ rs.length = i ∧ RdsAt wn rs) ⟨[], [], none, none, rfl, e3', ?_, .nil, rfl, fun r hr => by simp at hr⟩ ?_ ?_
    · exact e3.1 _ _ fR (e2.1 _ _ fR upd_same)
    · rintro i σ H4 hi ⟨us, rs, y6, y7, rfl, e4, hR, hP, hlen, hok⟩
      refine ⟨_, rfl, wn, rfl, by omega, by omega, fun D nD => ?_⟩
      have nD0 : H D = none := e4.free nD
      have fD : D ≠ a := hF.ne nD0
      have nDR : R ≠ D := ne_of_none hR nD
      refine lc_range (lo := 0) (n := ((wn : Nat) : Int).toNat) (fun j H' => ∃ acc : List Int, Ext1 a H4 H' ∧ H' D = some (.lst (acc.map V.int)) ∧ acc.Pairwise (· < ·) ∧ ∀ x ∈ acc, 0 ≤ x ∧ x < (j : Int))
        ⟨[], (Ext1.refl e4.feed).new nD, upd_same, .nil, fun x hx => by simp at hx⟩ ?_ ?_
      · rintro j H5 hj ⟨acc, e5, hD, pa, ba⟩
        refine ⟨rfl, _, rfl, a, 3, rfl, e5.feed, by decide, by decide, fun H6 v e6 v0 v1 => ⟨_, rfl, _, _, rfl, rfl, _, _, rfl, rfl, _, rfl, ite2 (fun _ => ?_) (fun _ => ?_)⟩⟩
        · have hD6 := e6.1 _ _ fD hD
          have hal := asc_len pa ba (by omega)
          have hj' : j < wn := by simpa using hj
          refine ⟨_, rfl, _, hD6, szl (by rw [List.length_map]; omega), acc ++ [0 + (j : Int)], (e5.trans e6).own nD fD, by rw [upd_same, List.map_append]; rfl, ?_, ?_⟩
          · refine List.pairwise_append.mpr ⟨pa, List.pairwise_singleton _ _, fun x hx y hy => ?_⟩
            have := ba x hx
            rw [List.mem_singleton.mp hy]
            omega
          · intro x hx
            rcases List.mem_append.mp hx with h | h
            · have := ba x h
              omega
            · rw [List.mem_singleton.mp h]
              omega
        · exact ⟨acc, e5.trans e6, e6.1 _ _ fD hD, pa, fun x hx => by have := ba x hx; omega⟩
      · rintro H5 ⟨acc, e5, hD, pa, ba⟩
        have ha : Asc wn acc := ⟨pa, fun x hx => by have := ba x hx; omega⟩
        have hR5 := e5.1 _ _ fR hR
        have hi3 : i < n3.toNat := hi
        refine ⟨_, rfl, .inl ⟨rfl, _, .inl (.inl hR5)⟩, ?_⟩
        refine ⟨_, rfl, (by show 10 ≤ sizeLine; decide), fun l nl => ⟨a, l, [0, 1, 1, 1, 2, 2, 3, 4, 5, 6].map V.int, rfl, (Ext1.new (Ext1.refl e5.feed) nl).feed, .inl (.inl upd_same), e5.feed.ne nl, by decide, by decide, fun H6 v e6 hv => ?_⟩⟩
        obtain ⟨lim, rfl, hlim⟩ := mem_map_int hv
        have hl6 : 0 ≤ lim ∧ lim ≤ 6 := (by decide : ∀ x ∈ ([0, 1, 1, 1, 2, 2, 3, 4, 5, 6] : List Int), 0 ≤ x ∧ x ≤ 6) lim hlim
        have e6' : Ext1 a H5 H6 := (Ext1.new (Ext1.refl e5.feed) nl).trans e6
        have hD6 := e6'.1 _ _ fD hD
        refine ⟨_, rfl, D, _, rfl, .inl ⟨.inl (.inl hD6), fun m nm => ⟨(by show 2 ≤ sizeLine; decide), fun t nt => ?_⟩⟩⟩
        have hR6 := e6'.1 _ _ fR hR5
        have nRm : R ≠ m := ne_of_none hR6 nm
        have hR7 : upd H6 m (.tup (acc.map V.int)) R = some (.lst us) := by rw [upd_ne nRm]; exact hR6
        have nRt : R ≠ t := ne_of_none hR7 nt
        have nmt : m ≠ t := fun e => by rw [← e, upd_same] at nt; cases nt
        have hR8 : upd (upd H6 m (.tup (acc.map V.int))) t (.tup [.int lim, .ref m]) R = some (.lst us) := by rw [upd_ne nRt]; exact hR7
        have e8 : Ext1 a H4 (upd (upd H6 m (.tup (acc.map V.int))) t (.tup [.int lim, .ref m])) := ((e5.trans e6').new nm).new nt
        have hul : us.length ≤ 100 := by rw [Paired.len hP, hlen]; omega
        refine ⟨R, _, _, rfl, rfl, hR8, szl (by omega), us ++ [.ref t], rs ++ [(lim, acc)], some (.int (0 + (i : Int))), some (.ref D), rfl, (e4.trans e8).own nR0 fR, upd_same, ?_, by simp [hlen], ?_⟩
        · refine Paired.snoc (L2.Paired.mapP hP fun _ _ z => RdT.upd hR8 (z.ext e8 e4.feed)) (RdT.upd hR8 ⟨t, m, rfl, .inl (.inl upd_same), .inl (.inl ?_)⟩)
          rw [upd_ne nmt, upd_same]
        · intro r hr
          rcases List.mem_append.mp hr with h | h
          · exact hok r h
          · rw [List.mem_singleton.mp h]
            exact ⟨hl6.1, hl6.2, ha⟩
    · rintro σ H4 ⟨us, rs, y6, y7, rfl, e4, hR, hP, hlen, hok⟩
      have hrl : rs.length ≤ 6 ∧ (rs.length : Int) ≤ mr := by omega
      refine ⟨_, rfl, _, rfl, Nat.zero_le _, fun ab nab => ?_⟩
      have e4' : Ext1 a H4 (upd H4 ab (.tup [])) := (Ext1.refl e4.feed).new nab
      refine ⟨a, R, ab, rs, [], rfl, e4'.feed, fR, ⟨us, .inl (.inl (e4'.1 _ _ fR hR)), L2.Paired.mapP hP fun _ _ z => z.ext e4' e4.feed⟩, rdsOk_of hok (by omega) (by omega), by omega, .inl (.inl upd_same), fun H5 p vs ws e5 np hp pw pr _ => ?_⟩
      have hwl : ws.length = rs.length := (Paired.len pr).symm
      refine ⟨_, rfl, p, vs, ws, wn, rfl, .inl (.inl hp), pw, by omega, by omega, fun H6 A s6 nA hA => ?_⟩
      have e6 : Ext1 a H4 H6 := (e4'.trans e5).trans (.same e5.feed s6)
      have nA0 : H A = none := (e4.trans (e4'.trans e5)).free nA
      have fA : A ≠ a := hF.ne nA0
      have hR6 := e6.1 _ _ fR hR
      have nAR : A ≠ R := fun e => by
        have := (e4'.trans e5).1 _ _ fR hR
        rw [← e, nA] at this; cases this
      have hP6 := L2.Paired.mapP hP fun _ _ z => RdT.ext e6 e4.feed z
      -- the demands are changed
      refine ⟨_, rfl, (by show 6 ≤ sizeLine; decide), fun l nl => ⟨a, l, [0, 0, 1, 1, 2, 6].map V.int, rfl, (Ext1.new (Ext1.refl e6.feed) nl).feed, .inl (.inl upd_same), e6.feed.ne nl, by decide, by decide, fun H7 v e7 hv => ?_⟩⟩
      obtain ⟨z, rfl, hz⟩ := mem_map_int hv
      have hz6 : 0 ≤ z ∧ z ≤ 6 := (by decide : ∀ x ∈ ([0, 0, 1, 1, 2, 6] : List Int), 0 ≤ x ∧ x ≤ 6) z hz
      have e7' : Ext1 a H6 H7 := (Ext1.new (Ext1.refl e6.feed) nl).trans e7
      refine ⟨z, rfl, by omega, by omega, ?_⟩
      refine for_range (lo := 0) (n := z.toNat) (fun i σ H' => ∃ (ds : List Int) (y6 : Option V), σ = [some (.ref a), some (.int mw), some (.int mr), some (.int wn), some (.ref R), some (.int wd), y6, y7, none, some (.ref A)] ∧ Ext1 a H H' ∧ H' A = some (.lst (ds.map V.int)) ∧ ds.length = wn ∧ (∀ d ∈ ds, 0 ≤ d ∧ d ≤ 6) ∧
          H' R = some (.lst us) ∧ Paired (RdT K H') us rs) ⟨times ws wn, y6, rfl, (e4.trans e6).trans e7', e7'.1 _ _ fA hA, times_len _ _, fun d hd => by have := times_le ws wn d hd; omega, e7'.1 _ _ fR hR6, L2.Paired.mapP hP6 fun _ _ z => RdT.ext e7' e6.feed z⟩ ?_ ?_
      · rintro i σ H8 hi ⟨ds, y6', rfl, e8, hA8, dl, db, hR8, hP8⟩
        refine ⟨_, rfl, (by show 6 ≤ sizeLine; decide), fun l nl => ⟨a, l, [0, 1, 1, 2, 3, 6].map V.int, rfl, (Ext1.new (Ext1.refl e8.feed) nl).feed, .inl (.inl upd_same), e8.feed.ne nl, by decide, by decide, fun H9 v e9 hv => ?_⟩⟩
        obtain ⟨y, rfl, hy⟩ := mem_map_int hv
        have hy6 : 0 ≤ y ∧ y ≤ 6 := (by decide : ∀ x ∈ ([0, 1, 1, 2, 3, 6] : List Int), 0 ≤ x ∧ x ≤ 6) y hy
        have e9' : Ext1 a H8 H9 := (Ext1.new (Ext1.refl e8.feed) nl).trans e9
        refine ⟨_, rfl, _, rfl, _, rfl, a, wn, rfl, e9'.feed, by omega, by omega, fun H10 k e10 k0 k1 => ?_⟩
        have e10' := e9'.trans e10
        have hA10 := e10'.1 _ _ fA hA8
        have hR10 := e10'.1 _ _ fR hR8
        obtain ⟨j, rfl⟩ : ∃ j : Nat, k = (j : Int) := ⟨k.toNat, by omega⟩
        refine ⟨A, _, (j : Int), j, rfl, rfl, hA10, ?_, ds.set j y, some (.int (0 + (i : Int))), rfl, (e8.trans e10').own nA0 fA, ?_, by simp [dl], ?_, ?_, ?_⟩
        · rw [List.length_map, dl]
          unfold ixN
          rw [if_pos (by omega), if_pos (by omega)]
          simp
        · rw [upd_same, List.map_set]
        · intro d hd
          rcases List.mem_or_eq_of_mem_set hd with h | h
          · exact db d h
          · rw [h]; exact hy6
        · rw [upd_ne nAR.symm]; exact hR10
        · exact L2.Paired.mapP hP8 fun _ _ z => RdT.upd hA10 (z.ext e10' e8.feed)
      · rintro σ H8 ⟨ds, y6', rfl, e8, hA8, dl, db, hR8, hP8⟩
        refine ⟨_, rfl, _, rfl, (by show 2 ≤ sizeLine; decide), fun p np => ?_⟩
        have hs : Same H8 (upd H8 p (.lst [.ref A, .ref R])) := sameU np
        have npA : p ≠ A := (ne_of_none hA8 np).symm
        have npR : p ≠ R := (ne_of_none hR8 np).symm
        exact q _ p A R ds us rs (e8.new np) (e8.free np) nA0 nR0 upd_same
          ⟨hs _ _ hA8, hs _ _ hR8, L2.Paired.mapP hP8 fun _ _ z => RdT.same hs z, by omega, by omega, db, hrl.1, by rw [dl]; exact hok, nAR⟩ npA npR (by omega) hrl.2
end
end Ew
namespace Ew
open PySem PySem.Spec PyProof.Rows L2
abbrev sIsInt : Stmt := (top 2)
abbrev sIsAmt : Stmt := (top 3)
abbrev sIsAsc : Stmt := (top 4)
abbrev sAreDem : Stmt := (top 15)
abbrev sIsRd : Stmt := (top 16)
def isI : V → Bool
  | .int _ => true
  | _ => false
def amt : V → Bool
  | .int i => decide (0 ≤ i) && decide (i ≤ 6)
  | _ => false
def ascV (n : Int) : Int → List V → Bool
  | _, [] => true
  | l, .int i :: r => decide (l < i) && decide (i < n) && ascV n i r
  | _, _ :: _ => false
/-- a value of a built-in type (of which what is asked about it stays) -/
def Bt (K : PySem.W.Frag) (H : Hp) (x : V) (T : String) : Prop := TyX K H x (.type T)
def spIsInt (K : PySem.W.Frag) : Sp := fun vs H Q _ => ∃ (x : V) (T : String), vs = [x] ∧ Bt K H x T ∧ Q (.bl (isI x)) H
def spIsAmt (K : PySem.W.Frag) : Sp := fun vs H Q _ => ∃ (x : V) (T : String), vs = [x] ∧ Bt K H x T ∧ Q (.bl (amt x)) H
def spIsAsc (K : PySem.W.Frag) : Sp := fun vs H Q _ => ∃ (x : V) (n : Int), vs = [x, .int n] ∧ ((∃ T, Bt K H x T ∧ T ≠ "tuple" ∧ Q (.bl false) H) ∨ ∃ t xs, x = .ref t ∧ SqT K H t xs ∧ (∀ y ∈ xs, ∃ T, Bt K H y T) ∧ Q (.bl (ascV n (-1) xs)) H)
def spAreDem (K : PySem.W.Frag) : Sp := fun vs H Q _ => ∃ (x : V), vs = [x] ∧ ((∃ T, Bt K H x T ∧ T ≠ "list" ∧ Q (.bl false) H) ∨ ∃ a xs, x = .ref a ∧ SqL K H a xs ∧ Bt K H x "list" ∧ xs.length ≤ 1000 ∧ (∀ y ∈ xs, ∃ T, Bt K H y T) ∧
  ∀ H', Same H H' → Q (.bl (decide (1 ≤ xs.length ∧ xs.length ≤ 6) && xs.all amt)) H')
def rdV (K : PySem.W.Frag) (H : Hp) (n : Int) (x : V) (b : Bool) : Prop :=
  (∃ T, Bt K H x T ∧ T ≠ "tuple" ∧ b = false) ∨ (∃ t xs, x = .ref t ∧ SqT K H t xs ∧ xs.length ≠ 2 ∧ b = false) ∨
  (∃ t y z, x = .ref t ∧ SqT K H t [y, z] ∧ (∃ T, Bt K H y T) ∧ ((∃ T, Bt K H z T ∧ T ≠ "tuple" ∧ b = false) ∨ ∃ m ys, z = .ref m ∧ SqT K H m ys ∧ (∀ u ∈ ys, ∃ T, Bt K H u T) ∧ b = (amt y && ascV n (-1) ys)))
def spIsRd (K : PySem.W.Frag) : Sp := fun vs H Q _ => ∃ (x : V) (n : Int) (b : Bool), vs = [x, .int n] ∧ rdV K H n x b ∧ Q (.bl b) H
theorem isI_of {K : PySem.W.Frag} {H : Hp} {x : V} {T : String} (h : Bt K H x T) : PySem.W.kitOne K (.type T) (.type "int") = some (decide (T = "int" ∨ T = "bool")) ∧ PySem.W.kitOne K (.type T) (.type "bool") = some (decide (T = "bool")) ∧ isI x = decide (T = "int") := by
  cases h with
  | base b => cases b <;> exact ⟨kit_ty (by decide +kernel), kit_ty (by decide +kernel), rfl⟩
  | _ => exact ⟨kit_ty (by decide +kernel), kit_ty (by decide +kernel), rfl⟩
theorem isT_of {K : PySem.W.Frag} {H : Hp} {x : V} {T : String} (h : Bt K H x T) : PySem.W.kitOne K (.type T) (.type "tuple") = some (decide (T = "tuple")) ∧ PySem.W.kitOne K (.type T) (.type "list") = some (decide (T = "list")) := by
  cases h with
  | base b => cases b <;> exact ⟨kit_ty (by decide +kernel), kit_ty (by decide +kernel)⟩
  | _ => exact ⟨kit_ty (by decide +kernel), kit_ty (by decide +kernel)⟩
theorem bt_tup {K : PySem.W.Frag} {H : Hp} {t : Addr} {xs : List V} (h : SqT K H t xs) : Bt K H (.ref t) "tuple" := by
  rcases h with (h | ⟨o, h⟩) | ⟨o, its, n, h, c, _⟩
  · exact .base (.tup h)
  · exact .fTuple h
  · exact .kTuple h c
theorem bt_lst {K : PySem.W.Frag} {H : Hp} {t : Addr} {xs : List V} (h : SqL K H t xs) : Bt K H (.ref t) "list" := by
  rcases h with (h | ⟨o, h⟩) | ⟨o, its, n, h, c, _⟩
  · exact .base (.lst h)
  · exact .base (.frz h)
  · exact .kList h c
theorem isI_int {x : V} (h : isI x = true) : ∃ i, x = .int i := by
  cases x <;> first | exact ⟨_, rfl⟩ | cases h
theorem amt_not {x : V} (h : isI x = false) : amt x = false := by
  cases x <;> first | rfl | cases h
/-- what stands of the package's small defs -/
structure Vals1 (K : PySem.W.Frag) (mg : Str → Option Value) : Prop where
  bi : Bi mg
  ga : ∃ t, mg "GREATEST_AMOUNT" = some (.int 6 t)
  mw : ∃ t, mg "MOST_WORKS" = some (.int 6 t)
  mr : ∃ t, mg "MOST_READERS" = some (.int 6 t)
  isInt : ∃ f fd, Fun K "is_integer" "is_integer" sIsInt f fd ∧ Binds K fd ["value"] [] ∧ mg "is_integer" = some (.ref f)
  isAmt : ∃ f fd, Fun K "is_amount" "is_amount" sIsAmt f fd ∧ Binds K fd ["value"] [] ∧ mg "is_amount" = some (.ref f)
  isAsc : ∃ f fd, Fun K "is_ascending" "is_ascending" sIsAsc f fd ∧ Binds K fd ["value", "many"] [] ∧ mg "is_ascending" = some (.ref f)
  areDem : ∃ f fd, Fun K "are_demands" "are_demands" sAreDem f fd ∧ Binds K fd ["value"] [] ∧ mg "are_demands" = some (.ref f)
  isRd : ∃ f fd, Fun K "is_reader" "is_reader" sIsRd f fd ∧ Binds K fd ["value", "many"] [] ∧ mg "is_reader" = some (.ref f)
section
variable {P : Program} {w : World} {K : PySem.W.Frag} {mg : Str → Option Value} {base : Heap}
theorem scIsInt : FnScope ["value"] ["value"] (defScope sIsInt) := ⟨rfl, rfl, rfl, by decide +kernel, rfl, by decide +kernel, by decide +kernel⟩
theorem ok_isInt {f : Addr} {fd : FuncData} (F : Fun K "is_integer" "is_integer" sIsInt f fd) (B : Bi mg) : FnOk P w K mg base CX0 1 f fd ["value"] (spIsInt K) := by
  refine F.ok scIsInt (fun vs H Q E h => ?_) (fun cdv A outer s H vs Q E hr h => ?_)
  · obtain ⟨x, T, rfl, _⟩ := h
    rfl
  · obtain ⟨x, T, rfl, hT, q⟩ := h
    refine ⟨_, pss_one (ps_ret (pe_and (pe_callB call_isi (by rfl) B.isinstance (by decide +kernel) (pa_cons (pv 0) (pa_cons (pe_bltn (v := .ty "int") (by rfl) B.int (by decide +kernel) rfl) pa_nil)))
      (pe_one (pe_not (pe_callB call_isi (by rfl) B.isinstance (by decide +kernel) (pa_cons (pv 0) (pa_cons (pe_bltn (v := .ty "bool") (by rfl) B.bool (by decide +kernel) rfl) pa_nil))))))), ?_⟩
    obtain ⟨k1, k2, e⟩ := isI_of hT
    refine ⟨x, rfl, x, .ty "int", _, _, _, rfl, .ty _, hT, k1, _, rfl, ?_⟩
    refine ite2 (fun c => ?_) (fun c => ?_)
    · refine ⟨x, rfl, x, .ty "bool", _, _, _, rfl, .ty _, hT, k2, _, rfl, ?_⟩
      have : (!decide (T = "bool")) = isI x := by
        rw [e]
        rcases of_decide_eq_true c with h | h
        · subst h; decide
        · subst h; decide
      rw [this]
      exact q
    · have : false = isI x := by
        rw [e]
        have h : ¬ (T = "int" ∨ T = "bool") := fun h => c (decide_eq_true h)
        exact (decide_eq_false fun h' => h (.inl h')).symm
      rw [this]
      exact q
theorem scIsAmt : FnScope ["value"] ["value"] (defScope sIsAmt) := ⟨rfl, rfl, rfl, by decide +kernel, rfl, by decide +kernel, by decide +kernel⟩
theorem ok_isAmt {f : Addr} {fd : FuncData} (F : Fun K "is_amount" "is_amount" sIsAmt f fd) (L : Vals1 K mg) : FnOk P w K mg base CX0 2 f fd ["value"] (spIsAmt K) := by
  obtain ⟨B, ⟨tg, ga⟩, _, _, ⟨fI, fdI, FI, bI, gI⟩, _⟩ := L
  have GI : FnOk P w K mg base CX0 1 fI fdI ["value"] (spIsInt K) := ok_isInt FI B
  refine F.ok scIsAmt (fun vs H Q E h => ?_) (fun cdv A outer s H vs Q E hr h => ?_)
  · obtain ⟨x, T, rfl, _⟩ := h
    rfl
  · obtain ⟨x, T, rfl, hT, q⟩ := h
    refine ⟨_, pss_one (ps_ret (pe_and (pe_call GI hr (by rfl) gI FI.kp bI .nil pass0 (pa_cons (pv 0) pa_nil)) (pe_one (pe_chain op_le op_le pe_int (pv 0) (pe_glob (v := .int 6) (by rfl) ga ⟨_, rfl⟩))))), ?_⟩
    refine ⟨x, rfl, x, T, rfl, hT, _, rfl, ?_⟩
    refine ite2 (fun c => ?_) (fun c => ?_)
    · obtain ⟨i, rfl⟩ := isI_int c
      refine ⟨_, rfl, _, _, rfl, rfl, _, rfl, ite2 (fun c => ?_) (fun c => ?_)⟩
      · refine ⟨_, _, rfl, rfl, ?_⟩
        have : amt (.int i) = decide (i ≤ 6) := by show (_ && _) = _; rw [c]; rfl
        rw [this] at q
        exact q
      · have : amt (.int i) = false := by show (_ && _) = _; rw [Bool.eq_false_iff.mpr c]; rfl
        rw [this] at q
        exact q
    · rw [amt_not (Bool.eq_false_iff.mpr c)] at q
      exact q
theorem scIsAsc : FnScope ["value", "many", "last", "item"] ["value", "many"] (defScope sIsAsc) := ⟨rfl, rfl, rfl, by decide +kernel, rfl, by decide +kernel, by decide +kernel⟩
theorem ok_isAsc {f : Addr} {fd : FuncData} (F : Fun K "is_ascending" "is_ascending" sIsAsc f fd) (L : Vals1 K mg) : FnOk P w K mg base CX0 2 f fd ["value", "many"] (spIsAsc K) := by
  obtain ⟨B, _, _, _, ⟨fI, fdI, FI, bI, gI⟩, _⟩ := L
  have GI : FnOk P w K mg base CX0 1 fI fdI ["value"] (spIsInt K) := ok_isInt FI B
  refine F.ok scIsAsc (fun vs H Q E h => ?_) (fun cdv A outer s H vs Q E hr h => ?_)
  · obtain ⟨x, n, rfl, _⟩ := h
    rfl
  · obtain ⟨x, n, rfl, h⟩ := h
    refine ⟨_, pss_cons (ps_if (pt_not (pt_val (pe_callB call_isi (by rfl) B.isinstance (by decide +kernel) (pa_cons (pv 0) (pa_cons (pe_bltn (v := .ty "tuple") (by rfl) B.tuple (by decide +kernel) rfl) pa_nil))))) (pss_one (ps_ret pe_bl)) pss_nil)
      (pss_cons (ps_set (i := 2) scIsAsc.nd rfl (.inl rfl) (pe_un un_neg pe_int))
      (pss_cons (ps_for PassesOwn.never rfl (pi_tup (pv 0)) (pg_name (i := 3) scIsAsc.nd rfl (.inl rfl))
        (pss_cons (ps_if (PW.pt (pw_or (pt_not (pt_val (pe_call GI hr (by rfl) gI FI.kp bI .nil pass0 (pa_cons (pv 3) pa_nil)))) (pw_or1 (pt_not (pt_chain op_lt op_lt (pv 2) (pv 3) (pv 1)))))) (pss_one (ps_ret pe_bl)) pss_nil)
          (pss_one (ps_set (i := 2) scIsAsc.nd rfl (.inl rfl) (pv 3)))))
      (pss_one (ps_ret pe_bl)))), ?_⟩
    rcases h with ⟨T, hT, nT, q⟩ | ⟨t, xs, rfl, hS, hty, q⟩
    · obtain ⟨k1, _⟩ := isT_of hT
      rw [decide_eq_false nT] at k1
      refine ⟨x, rfl, x, .ty "tuple", _, _, _, rfl, .ty _, hT, k1, _, rfl, ?_⟩
      exact q
    · obtain ⟨k1, _⟩ := isT_of (bt_tup hS)
      refine ⟨_, rfl, _, .ty "tuple", _, _, _, rfl, .ty _, bt_tup hS, k1, _, rfl, ?_⟩
      show (if (!decide ("tuple" = "tuple")) = true then _ else _)
      refine iteNS rfl ?_
      refine ⟨1, rfl, ?_⟩
      refine ⟨_, rfl, t, rfl, ⟨_, hS⟩, for_tup (K := K) (a := t) (xs := xs) (fun i σ H' => ∃ (l : Int) (y : Option V), σ = [some (.ref t), some (.int n), some (.int l), y] ∧ H' = H ∧ ascV n (-1) xs = ascV n l (xs.drop i)) ⟨-1, none, rfl, rfl, rfl⟩ (fun i σ H' _ ⟨_, _, _, e, _⟩ => e ▸ hS) ?_ ?_⟩
      · rintro i x σ H' hx ⟨l, y, rfl, rfl, e⟩
        obtain ⟨T, hT⟩ := hty x (List.mem_of_getElem? hx)
        have hd : xs.drop i = x :: xs.drop (i + 1) := by
          have hl := (List.getElem?_eq_some_iff.mp hx)
          rw [List.drop_eq_getElem_cons hl.1, hl.2]
        rw [hd] at e
        refine ⟨_, rfl, _, T, rfl, hT, _, rfl, ?_⟩
        cases hi : isI x with
        | false =>
          have : ascV n l (x :: xs.drop (i + 1)) = false := by cases x <;> first | rfl | cases hi
          rw [e, this] at q
          exact q
        | true =>
          obtain ⟨z, rfl⟩ := isI_int hi
          refine ⟨_, rfl, _, rfl, _, _, rfl, rfl, _, rfl, ite2 (fun c => ?_) (fun c => ?_)⟩
          · refine ⟨_, rfl, _, _, rfl, rfl, _, rfl, ?_⟩
            show (if (!decide (z < n)) = true then _ else _)
            cases c2 : decide (z < n) with
            | true =>
              refine iteF ?_
              refine ⟨_, rfl, z, _, rfl, rfl, ?_⟩
              rw [e]
              show (decide (l < z) && decide (z < n) && _) = _
              rw [c, c2]
              rfl
            | false =>
              refine iteT ?_
              have : ascV n l (V.int z :: xs.drop (i + 1)) = false := by
                show (decide (l < z) && decide (z < n) && _) = _
                rw [c2, Bool.and_false]
                rfl
              rw [e, this] at q
              exact q
          · refine ⟨_, rfl, ?_⟩
            have : ascV n l (V.int z :: xs.drop (i + 1)) = false := by
              show (decide (l < z) && decide (z < n) && _) = _
              rw [Bool.eq_false_iff.mpr c]
              rfl
            rw [e, this] at q
            exact q
      · rintro σ H' ⟨l, y, rfl, rfl, e⟩
        rw [List.drop_length] at e
        have e' : ascV n (-1) xs = true := e
        rw [e'] at q
        exact q
end
end Ew
namespace Ew
open PySem PySem.Spec PyProof.Rows L2
section
variable {P : Program} {w : World} {K : PySem.W.Frag} {mg : Str → Option Value} {base : Heap}
theorem Bt.same {H H' : Hp} {x : V} {T : String} (s : Same H H') (h : Bt K H x T) : Bt K H' x T := by
  cases h with
  | base b =>
    cases b with
    | non => exact .base .non
    | bl => exact .base (.bl _)
    | int => exact .base (.int _)
    | str => exact .base (.str _)
    | flt => exact .base (.flt _)
    | lst e => exact .base (.lst (s _ _ e))
    | frz e => exact .base (.frz (s _ _ e))
    | tup e => exact .base (.tup (s _ _ e))
    | dK e => exact .base (.dK (s _ _ e))
    | dT e => exact .base (.dT (s _ _ e))
  | byt => exact .byt _
  | set e => exact .set (s _ _ e)
  | kList e c => exact .kList e c
  | kTuple e c => exact .kTuple e c
  | kDict e c => exact .kDict e c
  | fTuple e => exact .fTuple (s _ _ e)
  | fDict e => exact .fDict (s _ _ e)
theorem scAreDem : FnScope ["value", "demand"] ["value"] (defScope sAreDem) := ⟨rfl, rfl, rfl, by decide +kernel, rfl, by decide +kernel, by decide +kernel⟩
theorem ok_areDem {f : Addr} {fd : FuncData} (F : Fun K "are_demands" "are_demands" sAreDem f fd) (L : Vals1 K mg) : FnOk P w K mg base CX0 3 f fd ["value"] (spAreDem K) := by
  have L' := L
  obtain ⟨B, _, ⟨tw, mw⟩, _, _, ⟨fA, fdA, FA, bA, gA⟩, _⟩ := L'
  have GA : FnOk P w K mg base CX0 2 fA fdA ["value"] (spIsAmt K) := ok_isAmt FA L
  refine F.ok scAreDem (fun vs H Q E h => ?_) (fun cdv A outer s H vs Q E hr h => ?_)
  · obtain ⟨x, rfl, _⟩ := h
    rfl
  · obtain ⟨x, rfl, h⟩ := h
    refine ⟨_, pss_cons (ps_if (PW.pt (pw_or (pt_not (pt_val (pe_callB call_isi (by rfl) B.isinstance (by decide +kernel) (pa_cons (pv 0) (pa_cons (pe_bltn (v := .ty "list") (by rfl) B.list (by decide +kernel) rfl) pa_nil)))))
          (pw_or1 (pt_not (pt_chain op_le op_le pe_int (pe_callB call_len_seq (by rfl) B.len PySem.boot_len (pa_cons (pv 0) pa_nil)) (pe_glob (v := .int 6) (by rfl) mw ⟨_, rfl⟩)))))) (pss_one (ps_ret pe_bl)) pss_nil)
      (pss_one (ps_ret (pe_callB (cr_all rfl) (by rfl) B.all (by decide +kernel) (pa_cons
        (pe_lc (own := [("demand", 1)]) (g := gName 1) (tt := tYes) (te := tCall (spIsAmt K) [] E0 (tCons (tVar 1) tNil)) rfl scAreDem.nd (pi_list (pv 0)) (blkOk_by (own := [("demand", 1)]) (N := ["value", "demand"]) (sc := defScope sAreDem) (by decide +kernel))
          (fun _ _ _ _ _ => pg_name (i := 1) scAreDem.nd rfl (.inl rfl)) (fun _ _ _ _ _ => pts_nil) (fun _ _ _ _ _ => pe_call GA hr (by rfl) gA FA.kp bA .nil pass0 (pa_cons (pv 1) pa_nil))) pa_nil)))), ?_⟩
    rcases h with ⟨T, hT, nT, q⟩ | ⟨a, xs, rfl, hS, hB, hl, hty, q⟩
    · obtain ⟨_, k1⟩ := isT_of hT
      rw [decide_eq_false nT] at k1
      refine ⟨x, rfl, x, .ty "list", _, _, _, rfl, .ty _, hT, k1, _, rfl, ?_⟩
      exact q
    · obtain ⟨_, k1⟩ := isT_of hB
      refine ⟨_, rfl, _, .ty "list", _, _, _, rfl, .ty _, hB, k1, _, rfl, ?_⟩
      show (if (!decide ("list" = "list")) = true then _ else _)
      refine iteNS rfl ?_
      refine ⟨_, rfl, a, xs, rfl, .inl hS, _, _, rfl, rfl, _, rfl, ite2 (fun c => ?_) (fun c => ?_)⟩
      · refine ⟨_, _, rfl, rfl, _, rfl, ?_⟩
        have c1 : (1 : Int) ≤ ((xs.length : Nat) : Int) := of_decide_eq_true c
        show (if (!decide (((xs.length : Nat) : Int) ≤ 6)) = true then _ else _)
        by_cases c6 : ((xs.length : Nat) : Int) ≤ 6
        · refine iteNS c6 ?_
          refine ⟨_, rfl, a, rfl, ⟨_, hS⟩, fun D nD => ?_⟩
          refine lc_list (K := K) (a := a) (xs := xs) (fun i H' => Same H H' ∧ H' D = some (.lst (((xs.take i).map amt).map V.bl))) ⟨sameU nD, upd_same⟩ (fun i H' _ ⟨e, _⟩ => e.seq hS) ?_ ?_
          · rintro i x H1 hx ⟨s1, hD⟩
            obtain ⟨T, hT⟩ := hty x (List.mem_of_getElem? hx)
            refine ⟨rfl, ?_⟩
            dsimp only [tYes]
            refine iteT ?_
            refine ⟨_, rfl, x, T, rfl, hT.same s1, _, hD, szl (by rw [List.length_map, List.length_map, List.length_take]; omega), same_own s1 nD, ?_⟩
            rw [upd_same, take_more hx, List.map_append, List.map_append]
            rfl
          · rintro H1 ⟨s1, hD⟩
            rw [List.take_length] at hD
            refine ⟨D, _, rfl, .inl (.inl hD), ?_⟩
            have q' := q H1 s1
            have e1 : decide (1 ≤ xs.length ∧ xs.length ≤ 6) = true := decide_eq_true (by omega)
            have e2 : (xs.map amt).all id = xs.all amt := by rw [List.all_map]; rfl
            rw [e1, Bool.true_and, ← e2] at q'
            exact q'
        · rw [decide_eq_false c6]
          refine iteT ?_
          have e1 : decide (1 ≤ xs.length ∧ xs.length ≤ 6) = false := decide_eq_false (by omega)
          have q' := q H (Same.refl H)
          rw [e1] at q'
          exact q'
      · refine ⟨_, rfl, ?_⟩
        have c1 : ¬ (1 : Int) ≤ ((xs.length : Nat) : Int) := fun h => c (decide_eq_true h)
        have e1 : decide (1 ≤ xs.length ∧ xs.length ≤ 6) = false := decide_eq_false (by omega)
        have q' := q H (Same.refl H)
        rw [e1] at q'
        exact q'
theorem scIsRd : FnScope ["value", "many", "limit", "may"] ["value", "many"] (defScope sIsRd) := ⟨rfl, rfl, rfl, by decide +kernel, rfl, by decide +kernel, by decide +kernel⟩
theorem ok_isRd {f : Addr} {fd : FuncData} (F : Fun K "is_reader" "is_reader" sIsRd f fd) (L : Vals1 K mg) : FnOk P w K mg base CX0 3 f fd ["value", "many"] (spIsRd K) := by
  have L' := L
  obtain ⟨B, _, _, _, _, ⟨fA, fdA, FA, bA, gA⟩, ⟨fC, fdC, FC, bC, gC⟩, _⟩ := L'
  have GA : FnOk P w K mg base CX0 2 fA fdA ["value"] (spIsAmt K) := ok_isAmt FA L
  have GC : FnOk P w K mg base CX0 2 fC fdC ["value", "many"] (spIsAsc K) := ok_isAsc FC L
  refine F.ok scIsRd (fun vs H Q E h => ?_) (fun cdv A outer s H vs Q E hr h => ?_)
  · obtain ⟨x, n, b, rfl, _⟩ := h
    rfl
  · obtain ⟨x, n, b, rfl, h, q⟩ := h
    refine ⟨_, pss_cons (ps_if (PW.pt (pw_or (pt_not (pt_val (pe_callB call_isi (by rfl) B.isinstance (by decide +kernel) (pa_cons (pv 0) (pa_cons (pe_bltn (v := .ty "tuple") (by rfl) B.tuple (by decide +kernel) rfl) pa_nil)))))
          (pw_or1 (pt_cmpR op_ne (pe_callB call_len_seq (by rfl) B.len PySem.boot_len (pa_cons (pv 0) pa_nil)) pe_int (nomark _))))) (pss_one (ps_ret pe_bl)) pss_nil)
      (pss_cons (ps_asg (pv 0) (pg_tup (by rfl) (pgs_cons (pg_name (i := 2) scIsRd.nd rfl (.inl rfl)) (pgs_cons (pg_name (i := 3) scIsRd.nd rfl (.inl rfl)) pgs_nil))))
      (pss_one (ps_ret (pe_and (pe_call GA hr (by rfl) gA FA.kp bA .nil pass0 (pa_cons (pv 2) pa_nil)) (pe_one (pe_call GC hr (by rfl) gC FC.kp bC .nil pass0 (pa_cons (pv 3) (pa_cons (pv 1) pa_nil)))))))), ?_⟩
    rcases h with ⟨T, hT, nT, rfl⟩ | ⟨t, xs, rfl, hS, hl, rfl⟩ | ⟨t, y, z, rfl, hS, ⟨Ty, hy⟩, hz⟩
    · obtain ⟨k1, _⟩ := isT_of hT
      rw [decide_eq_false nT] at k1
      refine ⟨x, rfl, x, .ty "tuple", _, _, _, rfl, .ty _, hT, k1, _, rfl, ?_⟩
      exact q
    · obtain ⟨k1, _⟩ := isT_of (bt_tup hS)
      refine ⟨_, rfl, _, .ty "tuple", _, _, _, rfl, .ty _, bt_tup hS, k1, _, rfl, ?_⟩
      show (if (!decide ("tuple" = "tuple")) = true then _ else _)
      refine iteNS rfl ?_
      refine ⟨_, rfl, t, xs, rfl, .inr hS, rfl, _, rfl, ?_⟩
      have e : decide (V.int ((xs.length : Nat) : Int) = V.int 2) = false := decide_eq_false fun h => hl (by have := V.int.inj h; omega)
      rw [e]
      exact q
    · obtain ⟨k1, _⟩ := isT_of (bt_tup hS)
      refine ⟨_, rfl, _, .ty "tuple", _, _, _, rfl, .ty _, bt_tup hS, k1, _, rfl, ?_⟩
      show (if (!decide ("tuple" = "tuple")) = true then _ else _)
      refine iteNS rfl ?_
      refine ⟨_, rfl, t, _, rfl, .inr hS, rfl, _, rfl, ?_⟩
      refine iteF ?_
      refine ⟨_, rfl, t, _, rfl, hS, rfl, _, _, rfl, _, _, rfl, rfl, ?_⟩
      refine ⟨_, rfl, y, Ty, rfl, hy, _, rfl, ?_⟩
      rcases hz with ⟨T, hT, nT, rfl⟩ | ⟨m, ys, rfl, hM, hu, rfl⟩
      · cases amt y with
        | true => exact iteT ⟨_, rfl, _, rfl, z, _, rfl, .inl ⟨T, hT, nT, q⟩⟩
        | false => exact iteF q
      · cases ey : amt y with
        | true =>
          rw [ey] at q
          exact iteT ⟨_, rfl, _, rfl, _, _, rfl, .inr ⟨m, ys, rfl, hM, hu, q⟩⟩
        | false =>
          rw [ey] at q
          exact iteF q
end
end Ew
namespace Ew
open PySem PySem.Spec PyProof.Rows L2
abbrev sBkInit : Stmt := (inClass (top 17) 0)
abbrev sBkDem : Stmt := (inClass (top 17) 1)
abbrev sBkRd : Stmt := (inClass (top 17) 2)
abbrev sBkEq : Stmt := (inClass (top 17) 4)
theorem rd_ : ¬ (("_readers" : Str) = "_demands") := by decide +kernel
theorem dr_ : ¬ (("_demands" : Str) = "_readers") := by decide +kernel
def bf (A R : Addr) : List (Str × V) := putF "_readers" (.ref R) (putF "_demands" (.ref A) [])
theorem bf_dem (A R : Addr) : (bf A R).lookup ("_demands" : Str) = some (.ref A) := by
  unfold bf
  rw [lookup_putF, if_neg dr_, lookup_putF, if_pos rfl]
theorem bf_rd (A R : Addr) : (bf A R).lookup ("_readers" : Str) = some (.ref R) := by
  unfold bf
  rw [lookup_putF, if_pos rfl]
theorem bf_no (A R : Addr) {m : Str} (h1 : ¬ m = "_readers") (h2 : ¬ m = "_demands") : (bf A R).lookup m = none := by
  unfold bf
  rw [lookup_putF, if_neg h1, lookup_putF, if_neg h2]
  all_goals rfl
/-- a book stands at x: of ds and the readers us, which are rs; its lists are not the feed -/
def IsBook (K : PySem.W.Frag) (C f : Addr) (H : Hp) (x : Addr) (ds : List Int) (us : List V) (rs : List (Int × List Int)) : Prop :=
  ∃ dx A R, H x = some (.ins C dx (bf A R)) ∧ H A = some (.lst (ds.map V.int)) ∧ H R = some (.lst us) ∧ A ≠ f ∧ R ≠ f ∧ Paired (RdT K H) us rs
theorem IsBook.same {K : PySem.W.Frag} {C f x : Addr} {H H' : Hp} {ds us rs} (h : IsBook K C f H x ds us rs) (s : Same H H') : IsBook K C f H' x ds us rs := by
  obtain ⟨dx, A, R, h1, h2, h3, h4, h5, h6⟩ := h
  exact ⟨dx, A, R, s _ _ h1, s _ _ h2, s _ _ h3, h4, h5, L2.Paired.mapP h6 fun _ _ z => z.same s⟩
theorem IsBook.ext {K : PySem.W.Frag} {C f x : Addr} {H H' : Hp} {ds us rs} (h : IsBook K C f H x ds us rs) (hf : FeedAt H f) (s : Ext1 f H H') : IsBook K C f H' x ds us rs := by
  obtain ⟨dx, A, R, h1, h2, h3, h4, h5, h6⟩ := h
  have nx : x ≠ f := fun e => by
    obtain ⟨d, z, hz⟩ := hf
    rw [e, hz] at h1; cases h1
  exact ⟨dx, A, R, s.1 _ _ nx h1, s.1 _ _ h4 h2, s.1 _ _ h5 h3, h4, h5, L2.Paired.mapP h6 fun _ _ z => z.ext s hf⟩
/-- demands and readers as they may be -/
structure DsOk (ds : List Int) (rs : List (Int × List Int)) : Prop where
  n1 : 1 ≤ ds.length
  n6 : ds.length ≤ 6
  d6 : ∀ d ∈ ds, 0 ≤ d ∧ d ≤ 6
  r6 : rs.length ≤ 6
  ok : RdsAt ds.length rs
theorem BookAt.dsOk {K : PySem.W.Frag} {H : Hp} {A R : Addr} {ds us rs} (b : BookAt K H A R ds us rs) : DsOk ds rs := ⟨b.n1, b.n6, b.d6, b.r6, b.ok⟩
theorem bt_int {K : PySem.W.Frag} {H : Hp} (i : Int) : Bt K H (.int i) "int" := .base (.int i)
theorem ascV_ok {n : Int} : ∀ {l : List Int} {lo : Int}, l.Pairwise (· < ·) → (∀ x ∈ l, lo < x ∧ x < n) → ascV n lo (l.map V.int) = true
  | [], _, _, _ => rfl
  | x :: l, lo, hp, hb => by
    have hx := hb x (by simp)
    have hp' := List.pairwise_cons.mp hp
    show (decide (lo < x) && decide (x < n) && ascV n x (l.map V.int)) = true
    rw [decide_eq_true hx.1, decide_eq_true hx.2, ascV_ok hp'.2 fun y hy => ⟨hp'.1 y hy, (hb y (by simp [hy])).2⟩]
    rfl
theorem amt_ok {i : Int} (h : 0 ≤ i ∧ i ≤ 6) : amt (.int i) = true := by
  show (decide (0 ≤ i) && decide (i ≤ 6)) = true
  rw [decide_eq_true h.1, decide_eq_true h.2]
  rfl
theorem rdV_ok {K : PySem.W.Frag} {H : Hp} {n : Int} {v : V} {r : Int × List Int} (h : RdT K H v r) (o : RdOk n r) : rdV K H n v true := by
  obtain ⟨t, m, rfl, h1, h2⟩ := h
  refine .inr (.inr ⟨t, _, _, rfl, h1, ⟨_, bt_int _⟩, .inr ⟨m, _, rfl, h2, fun u hu => ?_, ?_⟩⟩)
  · obtain ⟨i, _, rfl⟩ := List.mem_map.mp hu
    exact ⟨_, bt_int _⟩
  · rw [amt_ok ⟨o.1, o.2.1⟩, ascV_ok o.2.2.1 fun x hx => by have := o.2.2.2 x hx; omega]
    rfl
def spBkInit (K : PySem.W.Frag) (C : Addr) : Sp := fun vs H Q _ => ∃ (x dx A R : Addr) (ds : List Int) (us : List V) (rs : List (Int × List Int)), vs = [.ref x, .ref A, .ref R] ∧ H x = some (.ins C dx []) ∧ SqL K H A (ds.map V.int) ∧ SqL K H R us ∧ Paired (RdT K H) us rs ∧ DsOk ds rs ∧
  ∀ H' A' R', (∀ b o, b ≠ x → H b = some o → H' b = some o) → H A' = none → H R' = none → H' x = some (.ins C dx (bf A' R')) → H' A' = some (.lst (ds.map V.int)) → H' R' = some (.lst us) → Q .non H'
structure BookTxt (K : PySem.W.Frag) (mg : Str → Option Value) (C : Addr) : Prop where
  cl : Cls K C
  nD : NoAttr K C "_demands"
  nR : NoAttr K C "_readers"
  mgC : mg "Book" = some (.ref C)
  init : ∃ f fd, Fun K "__init__" "Book.__init__" sBkInit f fd ∧ Binds K fd ["self", "demands", "readers"] [] ∧ Mk K C f
  dem : ∃ f fd, Fun K "demands" "Book.demands" sBkDem f fd ∧ Binds K fd ["self"] [] ∧ Meth K C "demands" f
  rd : ∃ f fd, Fun K "readers" "Book.readers" sBkRd f fd ∧ Binds K fd ["self"] [] ∧ Meth K C "readers" f
  eq : ∃ f fd, Fun K "__eq__" "Book.__eq__" sBkEq f fd ∧ Binds K fd ["self", "other"] [] ∧ Meth K C "__eq__" f
  ic : C8.InsC K C
  sub : PySem.W.notFirst K C (.ref C) = true
section
variable {P : Program} {w : World} {K : PySem.W.Frag} {mg : Str → Option Value} {base : Heap} {C : Addr}
theorem scBkInit : FnScope ["self", "demands", "readers", "place", "reader"] ["self", "demands", "readers"] (defScope sBkInit) := ⟨rfl, rfl, rfl, by decide +kernel, rfl, by decide +kernel, by decide +kernel⟩
theorem ok_bkInit {f : Addr} {fd : FuncData} (F : Fun K "__init__" "Book.__init__" sBkInit f fd) (L : Vals1 K mg) (T : BookTxt K mg C) : FnOk P w K mg base CX0 4 f fd ["self", "demands", "readers"] (spBkInit K C) := by
  have L' := L
  obtain ⟨B, _, _, ⟨tr, mr⟩, _, _, _, ⟨fD, fdD, FD, bD, gD⟩, ⟨fR, fdR, FR, bR, gR⟩⟩ := L'
  have GD : FnOk P w K mg base CX0 3 fD fdD ["value"] (spAreDem K) := ok_areDem FD L
  have GR : FnOk P w K mg base CX0 3 fR fdR ["value", "many"] (spIsRd K) := ok_isRd FR L
  refine F.ok scBkInit (fun vs H Q E h => ?_) (fun cdv A outer s H vs Q E hr h => ?_)
  · obtain ⟨x, dx, A, R, ds, us, rs, rfl, _⟩ := h
    rfl
  · obtain ⟨x, dx, A, R, ds, us, rs, rfl, hx, hA, hR, hP, ok, q⟩ := h
    refine ⟨_, pss_cons (ps_if (PW.pt (pw_or (pt_not (pt_val (pe_call GD hr (by rfl) gD FD.kp bD .nil pass0 (pa_cons (pv 1) pa_nil))))
          (pw_or (pt_not (pt_val (pe_callB call_isi (by rfl) B.isinstance (by decide +kernel) (pa_cons (pv 2) (pa_cons (pe_bltn (v := .ty "list") (by rfl) B.list (by decide +kernel) rfl) pa_nil)))))
          (pw_or1 (pt_cmpR op_gt (pe_callB call_len_seq (by rfl) B.len PySem.boot_len (pa_cons (pv 2) pa_nil)) (pe_glob (v := .int 6) (by rfl) mr ⟨_, rfl⟩) (nomark _)))))) (pss_one ps_never) pss_nil)
      (pss_cons (ps_for PassesOwn.never rfl (pi_enum (by rfl) B.enumerate (pa_cons (pv 2) pa_nil)) (pg_tup (by rfl) (pgs_cons (pg_name (i := 3) scBkInit.nd rfl (.inl rfl)) (pgs_cons (pg_name (i := 4) scBkInit.nd rfl (.inl rfl)) pgs_nil)))
        (pss_one (ps_if (pt_not (pt_val (pe_call GR hr (by rfl) gR FR.kp bR .nil pass0 (pa_cons (pv 4) (pa_cons (pe_callB call_len_seq (by rfl) B.len PySem.boot_len (pa_cons (pv 1) pa_nil)) pa_nil))))) (pss_one ps_never) pss_nil)))
      (pss_cons (ps_fld (pv 0) (pe_callTy call_list_of (by rfl) B.list (by decide +kernel) (pa_cons (pv 1) pa_nil)) rfl)
      (pss_one (ps_fld (pv 0) (pe_callTy call_list_of (by rfl) B.list (by decide +kernel) (pa_cons (pv 2) pa_nil)) rfl)))), ?_⟩
    refine ⟨_, rfl, _, rfl, .inr ⟨A, _, rfl, hA, bt_lst hA, by rw [List.length_map]; have := ok.n6; omega, fun y hy => ?_, fun H1 s1 => ?_⟩⟩
    · obtain ⟨i, _, rfl⟩ := List.mem_map.mp hy
      exact ⟨_, bt_int _⟩
    have e1 : (decide (1 ≤ (ds.map V.int).length ∧ (ds.map V.int).length ≤ 6) && (ds.map V.int).all amt) = true := by
      rw [List.length_map, decide_eq_true ⟨ok.n1, ok.n6⟩, Bool.true_and, List.all_map]
      exact List.all_eq_true.mpr fun d hd => amt_ok (ok.d6 d hd)
    rw [e1]
    refine ⟨true, rfl, iteF ?_⟩
    obtain ⟨_, k1⟩ := isT_of (bt_lst (s1.seq hR))
    refine ⟨_, rfl, _, .ty "list", _, _, _, rfl, .ty _, bt_lst (s1.seq hR), k1, _, rfl, ?_⟩
    show (if (!decide ("list" = "list")) = true then _ else _)
    refine iteNS rfl ?_
    have hul : us.length = rs.length := Paired.len hP
    have r6 := ok.r6
    refine ⟨_, rfl, R, us, rfl, .inl (s1.seq hR), _, _, rfl, rfl, _, rfl, ?_⟩
    show (if decide ((6 : Int) < ((us.length : Nat) : Int)) = true then _ else _)
    rw [decide_eq_false (by omega)]
    refine iteF ?_
    refine ⟨_, rfl, R, us, rfl, s1.seq hR, for_it (walk_enum (xs := us)) (fun i σ H' => ∃ y3 y4, σ = [some (.ref x), some (.ref A), some (.ref R), y3, y4] ∧ Same H H') ⟨none, none, rfl, s1⟩ (fun i σ H' _ ⟨_, _, _, e⟩ => e.seq hR) ?_ ?_⟩
    · rintro i v σ H2 H3 hi ⟨y3, y4, rfl, s2⟩ ⟨t, x1, x2, rfl, nt, rfl, f1, f2⟩
      obtain ⟨r, hr2, rd⟩ := Paired.at1 hP f2
      have sT : Same H (upd H2 t (.tup [x1, x2])) := s2.trans (sameU nt)
      refine ⟨t, _, rfl, .inl (.inl upd_same), rfl, _, _, rfl, _, _, rfl, rfl, ?_⟩
      refine ⟨_, rfl, _, rfl, A, _, rfl, .inl (sT.seq hA), x2, _, true, rfl, ?_, true, rfl, ?_⟩
      · rw [List.length_map]
        exact rdV_ok (rd.same sT) (ok.ok r (List.mem_of_getElem? hr2))
      · exact iteF ⟨_, _, rfl, sT⟩
    · rintro σ H2 ⟨y3, y4, rfl, s2⟩
      refine ⟨_, rfl, A, _, rfl, .inl (s2.seq hA), fun A' nA => ?_⟩
      have nxA : x ≠ A' := ne_of_none (s2 _ _ hx) nA
      have sA : Same H (upd H2 A' (.lst (ds.map V.int))) := s2.trans (sameU nA)
      refine ⟨_, rfl, x, C, dx, _, rfl, sA _ _ hx, T.cl, T.nD, by show 0 < 1000; decide, ?_⟩
      have st : ∀ b o, b ≠ x → H b = some o → upd (upd H2 A' (.lst (ds.map V.int))) x (.ins C dx (putF "_demands" (.ref A') [])) b = some o := fun b o nb e => by
        rw [upd_ne nb]; exact sA _ _ e
      have hR2 : SqL K (upd (upd H2 A' (.lst (ds.map V.int))) x (.ins C dx (putF "_demands" (.ref A') []))) R us := by
        rcases hR with (h | ⟨o, h⟩) | h
        · exact .inl (.inl (st _ _ (fun e => by rw [e, hx] at h; cases h) h))
        · exact .inl (.inr ⟨o, st _ _ (fun e => by rw [e, hx] at h; cases h) h⟩)
        · exact .inr h
      refine ⟨_, rfl, R, _, rfl, .inl hR2, fun R' nR => ?_⟩
      have nxR : x ≠ R' := fun e => by rw [← e, upd_same] at nR; cases nR
      have nR1 : upd H2 A' (.lst (ds.map V.int)) R' = none := by rw [upd_ne nxR.symm] at nR; exact nR
      have nAR : A' ≠ R' := fun e => by rw [← e, upd_same] at nR1; cases nR1
      refine ⟨_, rfl, x, C, dx, putF "_demands" (.ref A') [], rfl, ?_, T.cl, T.nR, (by show 1 < 1000; decide), ?_⟩
      · rw [upd_ne nxR, upd_same]
      refine q _ A' R' (fun b o nb e => ?_) (s2.free nA) (sA.free nR1) upd_same ?_ ?_
      · rw [upd_ne nb]
        have nbR : b ≠ R' := ne_of_none (sA _ _ e) nR1
        rw [upd_ne nbR]
        exact st _ _ nb e
      · rw [upd_ne nxA.symm, upd_ne nAR, upd_ne nxA.symm, upd_same]
      · rw [upd_ne nxR.symm, upd_same]
end
end Ew
namespace Ew
open PySem PySem.Spec PyProof.Rows L2
def spBkDem (K : PySem.W.Frag) (C : Addr) : Sp := fun vs H Q _ => ∃ (f x : Addr) (ds : List Int) (us : List V) (rs : List (Int × List Int)), vs = [.ref x] ∧ IsBook K C f H x ds us rs ∧ ∀ H' p, Same H H' → H p = none → H' p = some (.lst (ds.map V.int)) → Q (.ref p) H'
def spBkRd (K : PySem.W.Frag) (C : Addr) : Sp := fun vs H Q _ => ∃ (f x : Addr) (ds : List Int) (us : List V) (rs : List (Int × List Int)), vs = [.ref x] ∧ IsBook K C f H x ds us rs ∧ ∀ H' p, Same H H' → H p = none → H' p = some (.lst us) → Q (.ref p) H'
/-- no value of a built-in type is a book -/
def NoBook (K : PySem.W.Frag) (C : Addr) : Prop := ∀ T ∈ ["NoneType", "bool", "int", "str", "list", "tuple", "dict"], PySem.W.kitOne K (.type T) (.ref C) = some false ∧ PySem.W.notFirst K C (.type T) = true
def spBkEq (K : PySem.W.Frag) (C : Addr) : Sp := fun vs H Q _ => ∃ (f x : Addr) (y : V) (ds : List Int) (us : List V) (rs : List (Int × List Int)), vs = [.ref x, y] ∧ IsBook K C f H x ds us rs ∧
  ((∃ g z ds' us' rs', y = .ref z ∧ IsBook K C g H z ds' us' rs' ∧ Q (.bl (decide (ds = ds') && decide (rs = rs'))) H) ∨ (∃ T, Bt K H y T ∧ T ∈ ["NoneType", "bool", "int", "str", "list", "tuple", "dict"] ∧ Q (.bl false) H))
section
variable {P : Program} {w : World} {K : PySem.W.Frag} {mg : Str → Option Value} {base : Heap} {C : Addr}
theorem scBkDem : FnScope ["self"] ["self"] (defScope sBkDem) := ⟨rfl, rfl, rfl, by decide +kernel, rfl, by decide +kernel, by decide +kernel⟩
theorem ok_bkDem {f : Addr} {fd : FuncData} (F : Fun K "demands" "Book.demands" sBkDem f fd) (B : Bi mg) (T : BookTxt K mg C) : FnOk P w K mg base CX0 1 f fd ["self"] (spBkDem K C) := by
  refine F.ok scBkDem (fun vs H Q E h => ?_) (fun cdv A outer s H vs Q E hr h => ?_)
  · obtain ⟨f, x, ds, us, rs, rfl, _⟩ := h
    rfl
  · obtain ⟨f, x, ds, us, rs, rfl, ⟨dx, A, R, h1, h2, h3, h4, h5, h6⟩, q⟩ := h
    refine ⟨_, pss_one (ps_ret (pe_callTy call_list_of (by rfl) B.list (by decide +kernel) (pa_cons (pe_fld (pv 0) rfl) pa_nil))), ?_⟩
    refine ⟨_, rfl, x, C, dx, _, _, rfl, h1, T.cl, T.nD, bf_dem _ _, A, _, rfl, .inl (.inl (.inl h2)), fun p np => ?_⟩
    exact q _ p (sameU np) np upd_same
theorem scBkRd : FnScope ["self"] ["self"] (defScope sBkRd) := ⟨rfl, rfl, rfl, by decide +kernel, rfl, by decide +kernel, by decide +kernel⟩
theorem ok_bkRd {f : Addr} {fd : FuncData} (F : Fun K "readers" "Book.readers" sBkRd f fd) (B : Bi mg) (T : BookTxt K mg C) : FnOk P w K mg base CX0 1 f fd ["self"] (spBkRd K C) := by
  refine F.ok scBkRd (fun vs H Q E h => ?_) (fun cdv A outer s H vs Q E hr h => ?_)
  · obtain ⟨f, x, ds, us, rs, rfl, _⟩ := h
    rfl
  · obtain ⟨f, x, ds, us, rs, rfl, ⟨dx, A, R, h1, h2, h3, h4, h5, h6⟩, q⟩ := h
    refine ⟨_, pss_one (ps_ret (pe_callTy call_list_of (by rfl) B.list (by decide +kernel) (pa_cons (pe_fld (pv 0) rfl) pa_nil))), ?_⟩
    refine ⟨_, rfl, x, C, dx, _, _, rfl, h1, T.cl, T.nR, bf_rd _ _, R, _, rfl, .inl (.inl (.inl h3)), fun p np => ?_⟩
    exact q _ p (sameU np) np upd_same
theorem scBkEq : FnScope ["self", "other"] ["self", "other"] (defScope sBkEq) := ⟨rfl, rfl, rfl, by decide +kernel, rfl, by decide +kernel, by decide +kernel⟩
theorem ok_bkEq {f : Addr} {fd : FuncData} (F : Fun K "__eq__" "Book.__eq__" sBkEq f fd) (B : Bi mg) (T : BookTxt K mg C) (N : NoBook K C) : FnOk P w K mg base CX0 1 f fd ["self", "other"] (spBkEq K C) := by
  refine F.ok scBkEq (fun vs H Q E h => ?_) (fun cdv A outer s H vs Q E hr h => ?_)
  · obtain ⟨f, x, y, ds, us, rs, rfl, _⟩ := h
    rfl
  · obtain ⟨f, x, y, ds, us, rs, rfl, ⟨dx, A, R, h1, h2, h3, h4, h5, h6⟩, h⟩ := h
    refine ⟨_, pss_one (ps_ret (pe_and (pe_callB call_isi (by rfl) B.isinstance (by decide +kernel) (pa_cons (pv 1) (pa_cons (pe_glob (v := .ref C) (by rfl) T.mgC rfl) pa_nil)))
      (pe_and (pe_cmpR (op_eqD hr.units) (pe_fld (pv 0) rfl) (pe_fld (pv 1) rfl) (nomark _)) (pe_one (pe_cmpR (op_eqD hr.units) (pe_fld (pv 0) rfl) (pe_fld (pv 1) rfl) (nomark _)))))), ?_⟩
    rcases h with ⟨g, z, ds', us', rs', rfl, ⟨dx', A', R', k1, k2, k3, k4, k5, k6⟩, q⟩ | ⟨Ty, hT, hm, q⟩
    · refine ⟨_, rfl, _, .ref C, _, _, _, rfl, .own C, .base (.ins k1 T.ic.cl T.ic.ha T.ic.hn T.ic.htk T.ic.hm), T.ic.me, true, rfl, iteT ?_⟩
      refine ⟨_, rfl, x, C, dx, _, _, rfl, h1, T.cl, T.nD, bf_dem _ _, _, rfl, z, C, dx', _, _, rfl, k1, T.cl, T.nD, bf_dem _ _, _, _, dp_dI (.inl (.inl h2)), dp_dI (.inl (.inl k2)), shp_dI _, shp_dI _, _, rfl, ?_⟩
      rw [eqv_dI]
      by_cases e : ds = ds'
      · rw [decide_eq_true e]
        refine iteT ?_
        refine ⟨_, rfl, x, C, dx, _, _, rfl, h1, T.cl, T.nR, bf_rd _ _, _, rfl, z, C, dx', _, _, rfl, k1, T.cl, T.nR, bf_rd _ _, _, _, dp_dRs (.inl (.inl h3)) h6, dp_dRs (.inl (.inl k3)) k6, shp_dRs _, shp_dRs _, ?_⟩
        rw [eqv_dRs]
        rw [decide_eq_true e, Bool.true_and] at q
        exact q
      · rw [decide_eq_false e]
        refine iteF ?_
        rw [decide_eq_false e, Bool.false_and] at q
        exact q
    · exact ⟨_, rfl, y, .ref C, _, _, _, rfl, .own C, hT, (N Ty hm).1, false, rfl, iteF q⟩
end
end Ew
namespace Ew
open PySem PySem.Spec PyProof.Rows L2
abbrev sLaw : Stmt := (top 32)
theorem sameX {H H1 H2 : Hp} {f : Addr} (s : Same H H1) (n : H f = none) (e : Ext1 f H1 H2) : Same H H2 := fun b o h => e.1 b o (ne_of_none h n) (s b o h)
def spLaw (K : PySem.W.Frag) : Sp := fun vs H Q _ => ∃ (a : Addr) (ns : List Int), vs = [.ref a] ∧ SqL K H a (ns.map V.int) ∧ ns.length ≤ 63 ∧ ∀ H', Q (.bl true) H'
section
variable {P : Program} {w : World} {K : PySem.W.Frag} {mg : Str → Option Value} {base : Heap} {C : Addr}
/-- a new book, made of such lists -/
theorem init_of {Hb : Hp} {f x dx A1 R1 : Addr} {ds : List Int} {us : List V} {rs : List (Int × List Int)} {Q : VK} {E : XK} (hf : FeedAt Hb f) (nx : Hb x = none) (ndx : Hb dx = none) (nex : dx ≠ x) (hA : SqL K Hb A1 (ds.map V.int)) (hR : SqL K Hb R1 us)
    (hP : Paired (RdT K Hb) us rs) (ok : DsOk ds rs) (k : ∀ H4, Same Hb H4 → IsBook K C f H4 x ds us rs → Q .non H4) : spBkInit K C [.ref x, .ref A1, .ref R1] (upd (upd Hb dx (.own x)) x (.ins C dx [])) Q E := by
  have s0 : Same Hb (upd (upd Hb dx (.own x)) x (.ins C dx [])) := fun b o e => by
    rw [upd_ne (ne_of_none e nx), upd_ne (ne_of_none e ndx)]
    exact e
  refine ⟨x, dx, A1, R1, ds, us, rs, rfl, upd_same, s0.seq hA, s0.seq hR, L2.Paired.mapP hP fun _ _ z => z.same s0, ok, fun H4 A2 R2 keep nA nR hx hA2 hR2 => ?_⟩
  have s4 : Same Hb H4 := fun b o e => keep b o (ne_of_none e nx) (s0 b o e)
  have hf0 : FeedAt (upd (upd Hb dx (.own x)) x (.ins C dx [])) f := let ⟨d, t, e⟩ := hf; ⟨d, t, s0 _ _ e⟩
  exact k H4 s4 ⟨dx, A2, R2, hx, hA2, hR2, hf0.ne nA, hf0.ne nR, L2.Paired.mapP hP fun _ _ z => z.same s4⟩
end
end Ew
namespace Ew
open PySem PySem.Spec PyProof.Rows L2
abbrev sGone : Stmt := (top 26)
abbrev sPrs : Stmt := (top 27)
abbrev sPkPrs : Stmt := (top 6)
abbrev sPkCount : Stmt := (top 7)
abbrev sPkShort : Stmt := (top 8)
abbrev sCnt : Stmt := (top 29)
abbrev sLack : Stmt := (top 30)
abbrev sShort : Stmt := (top 31)
def spGone (K : PySem.W.Frag) : Sp := fun vs H Q _ => ∃ (f R : Addr) (us : List V), vs = [.ref f, .ref R] ∧ FeedAt H f ∧ R ≠ f ∧ SqL K H R us ∧ us.length ≤ 60 ∧
  ∀ H' p as, Ext1 f H H' → H p = none → H' p = some (.tup (as.map V.int)) → Asc us.length as → Q (.ref p) H'
def spPrs (K : PySem.W.Frag) : Sp := fun vs H Q _ => ∃ (R ab : Addr) (us : List V) (as : List Int), vs = [.ref R, .ref ab] ∧ SqL K H R us ∧ us.length ≤ 60 ∧ SqT K H ab (as.map V.int) ∧
  ∀ H' p, Same H H' → H p = none → H' p = some (.lst ((pres us.length as).map V.int)) → Q (.ref p) H'
def spPkPrs (K : PySem.W.Frag) (C : Addr) : Sp := fun vs H Q _ => ∃ (f x ab : Addr) (ds : List Int) (us : List V) (rs : List (Int × List Int)) (as : List Int), vs = [.ref x, .ref ab] ∧ IsBook K C f H x ds us rs ∧ us.length ≤ 60 ∧ SqT K H ab (as.map V.int) ∧
  ∀ H' p, Same H H' → H p = none → H' p = some (.lst ((pres us.length as).map V.int)) → Q (.ref p) H'
/-- reader i of rs, who reads row i of ws -/
structure At (rs : List (Int × List Int)) (ws : List (List Int)) (i : Int) (r : Int × List Int) (w : List Int) : Prop where
  i0 : 0 ≤ i
  rd : rs[i.toNat]? = some r
  row : ws[i.toNat]? = some w
  may : r.2.length ≤ 60
  len : w.length ≤ 60
def spPkCount (K : PySem.W.Frag) (C : Addr) : Sp := fun vs H Q _ => ∃ (f x W k : Addr) (i : Int) (ds : List Int) (us : List V) (rs : List (Int × List Int)) (vw : List V) (ws : List (List Int)) (r : Int × List Int) (w works : List Int), vs = [.ref x, .ref W, .int i, .ref k] ∧ IsBook K C f H x ds us rs ∧
  SqL K H W vw ∧ Paired (RowT K H) vw ws ∧ SqT K H k (works.map V.int) ∧ works.length ≤ 60 ∧ At rs ws i r w ∧ ∀ H', Same H H' → Q (.int (cnt2 r w works)) H'
def spCnt (K : PySem.W.Frag) : Sp := fun vs H Q _ => ∃ (R W k : Addr) (i : Int) (us : List V) (rs : List (Int × List Int)) (vw : List V) (ws : List (List Int)) (r : Int × List Int) (w works : List Int), vs = [.ref R, .ref W, .int i, .ref k] ∧ SqL K H R us ∧ Paired (RdT K H) us rs ∧
  SqL K H W vw ∧ Paired (RowT K H) vw ws ∧ SqT K H k (works.map V.int) ∧ works.length ≤ 60 ∧ At rs ws i r w ∧ ∀ H', Same H H' → Q (.int (cnt1 r w works)) H'
section
variable {P : Program} {w : World} {K : PySem.W.Frag} {mg : Str → Option Value} {base : Heap} {C : Addr}
theorem scGone : FnScope ["feed", "readers", "at"] ["feed", "readers"] (defScope sGone) := ⟨rfl, rfl, rfl, by decide +kernel, rfl, by decide +kernel, by decide +kernel⟩
theorem ok_gone {f : Addr} {fd : FuncData} (F : Fun K "_law_gone" "_law_gone" sGone f fd) (L : Low K mg) : FnOk P w K mg base CX0 2 f fd ["feed", "readers"] (spGone K) := by
  obtain ⟨B, _, ⟨fT, fdT, FT, bT, gT⟩, _⟩ := L
  have GT : FnOk P w K mg base CX0 1 fT fdT ["feed", "many"] spTake := ok_take FT B
  refine F.ok scGone (fun vs H Q E h => ?_) (fun cdv A outer s H vs Q E hr h => ?_)
  · obtain ⟨a, R, us, rfl, _⟩ := h
    rfl
  · obtain ⟨a, R, us, rfl, hF, nR, hL, hlen, q⟩ := h
    refine ⟨_, pss_one (ps_ret (pe_callTy call_tuple_of (by rfl) B.tuple (by decide +kernel) (pa_cons
      (pe_lc (own := [("at", 2)]) (g := gName 2) (tt := tTest (tOp rEq (tCall spTake [] E0 (tCons (tVar 0) (tCons (tC (.int 5)) tNil))) (tC (.int 0)))) (te := tVar 2) rfl scGone.nd (pi_range1 rfl B.range (pa_cons (pe_callB call_len_seq (by rfl) B.len PySem.boot_len (pa_cons (pv 1) pa_nil)) pa_nil))
        (blkOk_by (own := [("at", 2)]) (N := ["feed", "readers", "at"]) (sc := defScope sGone) (by decide +kernel))
        (fun _ _ _ _ _ => pg_name (i := 2) scGone.nd rfl (.inl rfl)) (fun _ _ _ _ _ => pts_one (pt_cmpR op_eq (pe_call GT hr (by rfl) gT FT.kp bT .nil pass0 (pa_cons (pv 0) (pa_cons pe_int pa_nil))) pe_int (nomark _))) (fun _ _ _ _ _ => pv 2)) pa_nil))), ?_⟩
    refine ⟨_, rfl, R, us, rfl, .inl hL, _, rfl, by omega, by omega, fun D nD => ?_⟩
    have fD : D ≠ a := hF.ne nD
    refine lc_range (lo := 0) (n := ((us.length : Nat) : Int).toNat) (fun j H' => ∃ acc : List Int, Ext1 a H H' ∧ H' D = some (.lst (acc.map V.int)) ∧ acc.Pairwise (· < ·) ∧ ∀ x ∈ acc, 0 ≤ x ∧ x < (j : Int)) ⟨[], (Ext1.refl hF).new nD, upd_same, .nil, fun x hx => by simp at hx⟩ ?_ ?_
    · rintro j H5 hj ⟨acc, e5, hD, pa, ba⟩
      refine ⟨rfl, _, rfl, a, 5, rfl, e5.feed, by decide, by decide, fun H6 v e6 v0 v1 => ⟨rfl, _, rfl, ite2 (fun _ => ?_) (fun _ => ?_)⟩⟩
      · have hD6 := e6.1 _ _ fD hD
        have hal := asc_len pa ba (by omega)
        have hj' : j < us.length := by simpa using hj
        refine ⟨_, rfl, _, hD6, szl (by rw [List.length_map]; omega), acc ++ [0 + (j : Int)], (e5.trans e6).own nD fD, by rw [upd_same, List.map_append]; rfl, ?_, ?_⟩
        · refine List.pairwise_append.mpr ⟨pa, List.pairwise_singleton _ _, fun x hx y hy => ?_⟩
          have := ba x hx
          rw [List.mem_singleton.mp hy]
          omega
        · intro x hx
          rcases List.mem_append.mp hx with h | h
          · have := ba x h
            omega
          · rw [List.mem_singleton.mp h]
            omega
      · exact ⟨acc, e5.trans e6, e6.1 _ _ fD hD, pa, fun x hx => by have := ba x hx; omega⟩
    · rintro H5 ⟨acc, e5, hD, pa, ba⟩
      refine ⟨D, _, rfl, .inl ⟨.inl (.inl hD), fun p np => ?_⟩⟩
      exact q _ p acc (e5.new np) (e5.free np) upd_same ⟨pa, fun x hx => by have := ba x hx; omega⟩
theorem pres_snoc (n : Nat) (as : List Int) : pres (n + 1) as = pres n as ++ (if ((n : Nat) : Int) ∈ as then [] else [((n : Nat) : Int)]) := by
  unfold pres
  rw [List.range_succ, List.filter_append, List.map_append]
  by_cases h : ((n : Nat) : Int) ∈ as <;> simp [h]
theorem pres_len (n : Nat) (as : List Int) : (pres n as).length ≤ n := by
  unfold pres
  rw [List.length_map]
  exact Nat.le_trans (List.length_filter_le _ _) (by rw [List.length_range]; exact Nat.le_refl _)
theorem scPrs : FnScope ["readers", "absent", "at"] ["readers", "absent"] (defScope sPrs) := ⟨rfl, rfl, rfl, by decide +kernel, rfl, by decide +kernel, by decide +kernel⟩
theorem ok_prs {f : Addr} {fd : FuncData} (F : Fun K "_law_present" "_law_present" sPrs f fd) (B : Bi mg) : FnOk P w K mg base CX0 1 f fd ["readers", "absent"] (spPrs K) := by
  refine F.ok scPrs (fun vs H Q E h => ?_) (fun cdv A outer s H vs Q E hr h => ?_)
  · obtain ⟨R, ab, us, as, rfl, _⟩ := h
    rfl
  · obtain ⟨R, ab, us, as, rfl, hL, hlen, hA, q⟩ := h
    refine ⟨_, pss_one (ps_ret
      (pe_lc (own := [("at", 2)]) (g := gName 2) (tt := tTest (tOp (rIn K true) (tVar 2) (tVar 1))) (te := tVar 2) rfl scPrs.nd (pi_range1 rfl B.range (pa_cons (pe_callB call_len_seq (by rfl) B.len PySem.boot_len (pa_cons (pv 0) pa_nil)) pa_nil))
        (blkOk_by (own := [("at", 2)]) (N := ["readers", "absent", "at"]) (sc := defScope sPrs) (by decide +kernel))
        (fun _ _ _ _ _ => pg_name (i := 2) scPrs.nd rfl (.inl rfl)) (fun _ _ _ _ _ => pts_one (pt_cmpR op_notIn_seq (pv 2) (pv 1) (by rfl))) (fun _ _ _ _ _ => pv 2))), ?_⟩
    refine ⟨_, rfl, R, us, rfl, .inl hL, _, rfl, by omega, by omega, fun D nD => ?_⟩
    refine lc_range (lo := 0) (n := ((us.length : Nat) : Int).toNat) (fun j H' => Same H H' ∧ H' D = some (.lst ((pres j as).map V.int))) ⟨sameU nD, upd_same⟩ ?_ ?_
    · rintro j H5 hj ⟨s5, hD⟩
      have hj' : j < us.length := by simpa using hj
      have ez : (0 : Int) + ((j : Nat) : Int) = ((j : Nat) : Int) := Int.zero_add _
      refine ⟨rfl, _, rfl, _, rfl, ab, _, rfl, .inr (sameT s5 hA), rfl, flat_ints as, _, rfl, ?_⟩
      rw [ez, if_pos rfl, inV_int, pres_snoc]
      have := pres_len j as
      by_cases h : ((j : Nat) : Int) ∈ as
      · rw [decide_eq_true h, if_pos h, List.append_nil]
        exact iteF ⟨s5, hD⟩
      · rw [decide_eq_false h, if_neg h]
        refine iteT ⟨_, rfl, _, hD, szl (by rw [List.length_map]; omega), same_own s5 nD, ?_⟩
        rw [upd_same, List.map_append]
        rfl
    · rintro H5 ⟨s5, hD⟩
      exact q H5 D s5 nD (by rw [Int.toNat_natCast] at hD; exact hD)
theorem scPkPrs : FnScope ["book", "absent", "reader"] ["book", "absent"] (defScope sPkPrs) := ⟨rfl, rfl, rfl, by decide +kernel, rfl, by decide +kernel, by decide +kernel⟩
theorem ok_pkPrs {f : Addr} {fd : FuncData} (F : Fun K "present_readers" "present_readers" sPkPrs f fd) (B : Bi mg) (T : BookTxt K mg C) : FnOk P w K mg base CX0 2 f fd ["book", "absent"] (spPkPrs K C) := by
  obtain ⟨fR, fdR, FR, bR, mR⟩ := T.rd
  have GR : FnOk P w K mg base CX0 1 fR fdR ["self"] (spBkRd K C) := ok_bkRd FR B T
  refine F.ok scPkPrs (fun vs H Q E h => ?_) (fun cdv A outer s H vs Q E hr h => ?_)
  · obtain ⟨f, x, ab, ds, us, rs, as, rfl, _⟩ := h
    rfl
  · obtain ⟨f, x, ab, ds, us, rs, as, rfl, hb, hlen, hA, q⟩ := h
    refine ⟨_, pss_one (ps_ret
      (pe_lc (own := [("reader", 2)]) (g := gName 2) (tt := tTest (tOp (rIn K true) (tVar 2) (tVar 1))) (te := tVar 2) rfl scPkPrs.nd (pi_range1 rfl B.range (pa_cons (pe_callB call_len_seq (by rfl) B.len PySem.boot_len (pa_cons (pe_meth0 (pv 0) T.cl mR GR hr bR .nil pass0) pa_nil)) pa_nil))
        (blkOk_by (own := [("reader", 2)]) (N := ["book", "absent", "reader"]) (sc := defScope sPkPrs) (by decide +kernel))
        (fun _ _ _ _ _ => pg_name (i := 2) scPkPrs.nd rfl (.inl rfl)) (fun _ _ _ _ _ => pts_one (pt_cmpR op_notIn_seq (pv 2) (pv 1) (by rfl))) (fun _ _ _ _ _ => pv 2))), ?_⟩
    obtain ⟨dx, Ab, Rb, hx, _⟩ := id hb
    refine ⟨_, rfl, x, dx, _, rfl, hx, bf_no _ _ (by decide +kernel) (by decide +kernel), f, x, ds, us, rs, rfl, hb, fun H1 p s1 np hp => ?_⟩
    refine ⟨p, us, rfl, .inl (.inl (.inl hp)), _, rfl, by omega, by omega, fun D nD => ?_⟩
    refine lc_range (lo := 0) (n := ((us.length : Nat) : Int).toNat) (fun j H' => Same H1 H' ∧ H' D = some (.lst ((pres j as).map V.int))) ⟨sameU nD, upd_same⟩ ?_ ?_
    · rintro j H5 hj ⟨s5, hD⟩
      have hj' : j < us.length := by simpa using hj
      have ez : (0 : Int) + ((j : Nat) : Int) = ((j : Nat) : Int) := Int.zero_add _
      refine ⟨rfl, _, rfl, _, rfl, ab, _, rfl, .inr (sameT s5 (sameT s1 hA)), rfl, flat_ints as, _, rfl, ?_⟩
      rw [ez, if_pos rfl, inV_int, pres_snoc]
      have := pres_len j as
      by_cases h : ((j : Nat) : Int) ∈ as
      · rw [decide_eq_true h, if_pos h, List.append_nil]
        exact iteF ⟨s5, hD⟩
      · rw [decide_eq_false h, if_neg h]
        refine iteT ⟨_, rfl, _, hD, szl (by rw [List.length_map]; omega), same_own s5 nD, ?_⟩
        rw [upd_same, List.map_append]
        rfl
    · rintro H5 ⟨s5, hD⟩
      exact q H5 D (s1.trans s5) (s1.free nD) (by rw [Int.toNat_natCast] at hD; exact hD)
end
end Ew
namespace Ew
open PySem PySem.Spec PyProof.Rows L2
theorem at_map {α : Type} {g : α → V} {l : List α} {i : Nat} {x : V} (h : (l.map g)[i]? = some x) : ∃ d, l[i]? = some d ∧ x = g d := by
  rw [List.getElem?_map] at h
  cases e : l[i]? with
  | none => rw [e] at h; cases h
  | some d => rw [e] at h; exact ⟨d, rfl, (Option.some.inj h).symm⟩
theorem filter_len_le {α : Type} (p : α → Bool) (l : List α) (i : Nat) : ((l.take i).filter p).length ≤ l.length := by
  refine Nat.le_trans (List.length_filter_le _ _) ?_
  rw [List.length_take]
  omega
section
variable {P : Program} {w : World} {K : PySem.W.Frag} {mg : Str → Option Value} {base : Heap} {C : Addr}
theorem scPkCount : FnScope ["book", "rows", "reader", "works", "limit", "may", "outside", "work", "within"] ["book", "rows", "reader", "works"] (defScope sPkCount) := ⟨rfl, rfl, rfl, by decide +kernel, rfl, by decide +kernel, by decide +kernel⟩
theorem ok_pkCount {f : Addr} {fd : FuncData} (F : Fun K "count" "count" sPkCount f fd) (B : Bi mg) (T : BookTxt K mg C) : FnOk P w K mg base CX0 2 f fd ["book", "rows", "reader", "works"] (spPkCount K C) := by
  obtain ⟨fR, fdR, FR, bR, mR⟩ := T.rd
  have GR : FnOk P w K mg base CX0 1 fR fdR ["self"] (spBkRd K C) := ok_bkRd FR B T
  refine F.ok scPkCount (fun vs H Q E h => ?_) (fun cdv A outer s H vs Q E hr h => ?_)
  · obtain ⟨f, x, W, k, i, ds, us, rs, vw, ws, r, w, works, rfl, _⟩ := h
    rfl
  · obtain ⟨f, x, W, k, i, ds, us, rs, vw, ws, r, w, works, rfl, hb, hW, hPw, hk, hwl, at_, q⟩ := h
    refine ⟨_, pss_cons (ps_asg (pe_ix ix_list (pe_meth0 (pv 0) T.cl mR GR hr bR .nil pass0) (pv 2) (fun _ _ => rfl)) (pg_tup (by rfl) (pgs_cons (pg_name (i := 4) scPkCount.nd rfl (.inl rfl)) (pgs_cons (pg_name (i := 5) scPkCount.nd rfl (.inr rfl)) pgs_nil))))
      (pss_cons (ps_set (i := 6) scPkCount.nd rfl (.inl rfl) (pe_callB call_len_seq (by rfl) B.len PySem.boot_len (pa_cons
        (pe_lc (own := [("work", 7)]) (g := gName 7) (tt := tTest (tOp (rIn K true) (tVar 7) (tVar 3))) (te := tVar 7) rfl scPkCount.nd (pi_tup (pe_ix ix_list (pv 1) (pv 2) (fun _ _ => rfl)))
          (blkOk_by (own := [("work", 7)]) (N := ["book", "rows", "reader", "works", "limit", "may", "outside", "work", "within"]) (sc := defScope sPkCount) (by decide +kernel))
          (fun _ _ _ _ _ => pg_name (i := 7) scPkCount.nd rfl (.inl rfl)) (fun _ _ _ _ _ => pts_one (pt_cmpR op_notIn_seq (pv 7) (pv 3) (by rfl))) (fun _ _ _ _ _ => pv 7)) pa_nil)))
      (pss_cons (ps_set (i := 8) scPkCount.nd rfl (.inl rfl) (pe_callB call_len_seq (by rfl) B.len PySem.boot_len (pa_cons
        (pe_lc (own := [("work", 7)]) (g := gName 7) (tt := tTest (tOp (rIn K false) (tVar 7) (tVar 5))) (te := tVar 7) rfl scPkCount.nd (pi_tup (pv 3))
          (blkOk_by (own := [("work", 7)]) (N := ["book", "rows", "reader", "works", "limit", "may", "outside", "work", "within"]) (sc := defScope sPkCount) (by decide +kernel))
          (fun _ _ _ _ _ => pg_name (i := 7) scPkCount.nd rfl (.inl rfl)) (fun _ _ _ _ _ => pts_one (pt_cmpR op_in_seq (pv 7) (pv 5) (by rfl))) (fun _ _ _ _ _ => pv 7)) pa_nil)))
      (pss_one (ps_ret (pe_callB (call_min2 rfl) (by rfl) B.min (by decide +kernel) (pa_cons (pe_op op_sub (pv 4) (pv 6)) (pa_cons (pv 8) pa_nil))))))), ?_⟩
    obtain ⟨dx, Ab, Rb, hx, _⟩ := id hb
    obtain ⟨j, rfl⟩ : ∃ j : Nat, i = (j : Int) := ⟨i.toNat, by have := at_.i0; omega⟩
    have hrd := at_.rd
    have hrw := at_.row
    rw [Int.toNat_natCast] at hrd hrw
    refine ⟨_, rfl, x, dx, _, rfl, hx, bf_no _ _ (by decide +kernel) (by decide +kernel), f, x, ds, us, rs, rfl, hb, fun H1 p s1 np hp => ?_⟩
    obtain ⟨dx', A', R', g1, g2, g3, g4, g5, g6⟩ := hb.same s1
    obtain ⟨u, hu, t, m, rfl, hT, hM⟩ := Paired.at2 g6 hrd
    refine ⟨_, rfl, p, us, _, _, rfl, rfl, .inl (.inl hp), atI_nat hu, t, _, rfl, hT, rfl, _, _, rfl, _, _, rfl, rfl, ?_⟩
    obtain ⟨v, hv, tw, rfl, hR⟩ := Paired.at2 hPw hrw
    -- outside
    refine ⟨_, rfl, _, rfl, W, vw, _, _, rfl, rfl, s1.seq hW, atI_nat hv, tw, rfl, ⟨_, sameT s1 hR⟩, fun D nD => ?_⟩
    refine lc_tup (K := K) (a := tw) (xs := w.map V.int) (fun n H' => Same H1 H' ∧ H' D = some (.lst (((w.take n).filter fun y => !decide (y ∈ works)).map V.int))) ⟨sameU nD, upd_same⟩ (fun n H' _ ⟨e, _⟩ => sameT (s1.trans e) hR) ?_ ?_
    · rintro n y H2 hy ⟨s2, hD⟩
      obtain ⟨z, hz, rfl⟩ := at_map hy
      refine ⟨rfl, _, rfl, _, rfl, k, _, rfl, .inr (sameT (s1.trans s2) hk), rfl, flat_ints works, _, rfl, ?_⟩
      have st := filter_take_snoc (fun y => !decide (y ∈ works)) hz
      have hl := filter_len_le (fun y => !decide (y ∈ works)) w n
      have wl := at_.len
      rw [if_pos rfl, inV_int]
      refine ite2 (fun c => ?_) (fun c => ?_)
      · refine ⟨_, rfl, _, hD, szl (by rw [List.length_map]; omega), same_own s2 nD, ?_⟩
        rw [upd_same, st, if_pos c, List.map_append]
        rfl
      · refine ⟨s2, ?_⟩
        rw [st, if_neg c, List.append_nil]
        exact hD
    rintro H2 ⟨s2, hD⟩
    rw [List.length_map, List.take_length] at hD
    refine ⟨D, _, rfl, .inl (.inl (.inl hD)), ?_⟩
    rw [List.length_map]
    -- within
    have hk2 := sameT (s1.trans s2) hk
    refine ⟨_, rfl, k, rfl, ⟨_, hk2⟩, fun D2 nD2 => ?_⟩
    refine lc_tup (K := K) (a := k) (xs := works.map V.int) (fun n H' => Same H2 H' ∧ H' D2 = some (.lst (((works.take n).filter fun y => decide (y ∈ r.2)).map V.int))) ⟨sameU nD2, upd_same⟩ (fun n H' _ ⟨e, _⟩ => sameT e hk2) ?_ ?_
    · rintro n y H3 hy ⟨s3, hD3⟩
      obtain ⟨z, hz, rfl⟩ := at_map hy
      refine ⟨rfl, _, rfl, _, rfl, m, _, rfl, .inr (sameT (s2.trans s3) hM), rfl, flat_ints r.2, _, rfl, ?_⟩
      have st := filter_take_snoc (fun y => decide (y ∈ r.2)) hz
      have hl := filter_len_le (fun y => decide (y ∈ r.2)) works n
      rw [if_neg Bool.false_ne_true, inV_int]
      refine ite2 (fun c => ?_) (fun c => ?_)
      · refine ⟨_, rfl, _, hD3, szl (by rw [List.length_map]; omega), same_own s3 nD2, ?_⟩
        rw [upd_same, st, if_pos c, List.map_append]
        rfl
      · refine ⟨s3, ?_⟩
        rw [st, if_neg c, List.append_nil]
        exact hD3
    rintro H3 ⟨s3, hD3⟩
    rw [List.length_map, List.take_length] at hD3
    refine ⟨D2, _, rfl, .inl (.inl (.inl hD3)), ?_⟩
    rw [List.length_map]
    refine ⟨_, rfl, _, rfl, _, _, rfl, rfl, _, rfl, _, _, rfl, ?_⟩
    exact q H3 (s1.trans (s2.trans s3))
theorem scCnt : FnScope ["readers", "rows", "reader", "works", "limit", "may", "has", "work", "more"] ["readers", "rows", "reader", "works"] (defScope sCnt) := ⟨rfl, rfl, rfl, by decide +kernel, rfl, by decide +kernel, by decide +kernel⟩
theorem ok_cnt {f : Addr} {fd : FuncData} (F : Fun K "_law_count" "_law_count" sCnt f fd) (B : Bi mg) : FnOk P w K mg base CX0 1 f fd ["readers", "rows", "reader", "works"] (spCnt K) := by
  refine F.ok scCnt (fun vs H Q E h => ?_) (fun cdv A outer s H vs Q E hr h => ?_)
  · obtain ⟨R, W, k, i, us, rs, vw, ws, r, w, works, rfl, _⟩ := h
    rfl
  · obtain ⟨R, W, k, i, us, rs, vw, ws, r, w, works, rfl, hR, hP, hW, hPw, hk, hwl, at_, q⟩ := h
    refine ⟨_, pss_cons (ps_asg (pe_ix ix_list (pv 0) (pv 2) (fun _ _ => rfl)) (pg_tup (by rfl) (pgs_cons (pg_name (i := 4) scCnt.nd rfl (.inl rfl)) (pgs_cons (pg_name (i := 5) scCnt.nd rfl (.inl rfl)) pgs_nil))))
      (pss_cons (ps_asg (pe_lc (own := [("work", 7)]) (g := gName 7) (tt := tTest (tOp (rIn K false) (tVar 7) (tVar 3))) (te := tVar 7) rfl scCnt.nd (pi_tup (pe_ix ix_list (pv 1) (pv 2) (fun _ _ => rfl)))
          (blkOk_by (own := [("work", 7)]) (N := ["readers", "rows", "reader", "works", "limit", "may", "has", "work", "more"]) (sc := defScope sCnt) (by decide +kernel))
          (fun _ _ _ _ _ => pg_name (i := 7) scCnt.nd rfl (.inl rfl)) (fun _ _ _ _ _ => pts_one (pt_cmpR op_in_seq (pv 7) (pv 3) (by rfl))) (fun _ _ _ _ _ => pv 7)) (pg_name (i := 6) scCnt.nd rfl (.inr rfl)))
      (pss_cons (ps_setLc (i := 8) (own := [("work", 7)]) (g := gName 7) (tt := tAnd (tTest (tOp (rIn K false) (tVar 7) (tVar 3))) (tTest (tOp (rIn K true) (tVar 7) (tVar 6)))) (te := tVar 7) (by rfl) scCnt.nd rfl rfl (sw_true rfl rfl rfl (by decide +kernel)) (pi_tup (pv 5))
          (blkOk_by (own := [("work", 7)]) (N := ["readers", "rows", "reader", "works", "limit", "may", "has", "work", "more"]) (sc := defScope sCnt) (by decide +kernel))
          (fun _ _ _ _ _ => pg_name (i := 7) scCnt.nd rfl (.inl rfl)) (fun _ _ _ _ _ => pts_one (PW.pt (pw_and (pt_cmpR op_in_seq (pv 7) (pv 3) (by rfl)) (pw_and1 (pt_cmpR op_notIn_seq (pv 7) (pv 6) (by rfl)))))) (fun _ _ _ _ _ => pv 7))
      (pss_one (ps_ret (pe_op op_add (pe_callB call_len_seq (by rfl) B.len PySem.boot_len (pa_cons (pv 6) pa_nil))
        (pe_callB (call_min2 rfl) (by rfl) B.min (by decide +kernel) (pa_cons (pe_op op_sub (pv 4) (pe_callB call_len_seq (by rfl) B.len PySem.boot_len (pa_cons (pe_ix ix_list (pv 1) (pv 2) (fun _ _ => rfl)) pa_nil))) (pa_cons (pe_callB call_len_seq (by rfl) B.len PySem.boot_len (pa_cons (pv 8) pa_nil)) pa_nil)))))))), ?_⟩
    obtain ⟨j, rfl⟩ : ∃ j : Nat, i = (j : Int) := ⟨i.toNat, by have := at_.i0; omega⟩
    have hrd := at_.rd
    have hrw := at_.row
    have wl := at_.len
    have ml := at_.may
    rw [Int.toNat_natCast] at hrd hrw
    obtain ⟨u, hu, t, m, rfl, hT, hM⟩ := Paired.at2 hP hrd
    obtain ⟨v, hv, tw, rfl, hRw⟩ := Paired.at2 hPw hrw
    refine ⟨_, rfl, _, rfl, R, us, _, _, rfl, rfl, hR, atI_nat hu, t, _, rfl, hT, rfl, _, _, rfl, _, _, rfl, rfl, ?_⟩
    -- has
    refine ⟨_, rfl, _, rfl, W, vw, _, _, rfl, rfl, hW, atI_nat hv, tw, rfl, ⟨_, hRw⟩, fun D nD => ?_⟩
    refine lc_tup (K := K) (a := tw) (xs := w.map V.int) (fun n H' => Same H H' ∧ H' D = some (.lst (((w.take n).filter fun y => decide (y ∈ works)).map V.int))) ⟨sameU nD, upd_same⟩ (fun n H' _ ⟨e, _⟩ => sameT e hRw) ?_ ?_
    · rintro n y H2 hy ⟨s2, hD⟩
      obtain ⟨z, hz, rfl⟩ := at_map hy
      refine ⟨rfl, _, rfl, _, rfl, k, _, rfl, .inr (sameT s2 hk), rfl, flat_ints works, _, rfl, ?_⟩
      have st := filter_take_snoc (fun y => decide (y ∈ works)) hz
      have hl := filter_len_le (fun y => decide (y ∈ works)) w n
      rw [if_neg Bool.false_ne_true, inV_int]
      refine ite2 (fun c => ?_) (fun c => ?_)
      · refine ⟨_, rfl, _, hD, szl (by rw [List.length_map]; omega), same_own s2 nD, ?_⟩
        rw [upd_same, st, if_pos c, List.map_append]
        rfl
      · refine ⟨s2, ?_⟩
        rw [st, if_neg c, List.append_nil]
        exact hD
    rintro H2 ⟨s2, hD⟩
    rw [List.length_map, List.take_length] at hD
    have hM2 := sameT s2 hM
    -- more
    refine ⟨_, rfl, m, rfl, ⟨_, hM2⟩, fun D2 nD2 => ?_⟩
    refine lc_tup (K := K) (a := m) (xs := r.2.map V.int) (fun n H' => Same H2 H' ∧ H' D2 = some (.lst (((r.2.take n).filter fun y => decide (y ∈ works) && !decide (y ∈ w.filter fun y => decide (y ∈ works))).map V.int))) ⟨sameU nD2, upd_same⟩ (fun n H' _ ⟨e, _⟩ => sameT e hM2) ?_ ?_
    · rintro n y H3 hy ⟨s3, hD3⟩
      obtain ⟨z, hz, rfl⟩ := at_map hy
      have st := filter_take_snoc (fun y => decide (y ∈ works) && !decide (y ∈ w.filter fun y => decide (y ∈ works))) hz
      have hl := filter_len_le (fun y => decide (y ∈ works) && !decide (y ∈ w.filter fun y => decide (y ∈ works))) r.2 n
      refine ⟨rfl, _, rfl, _, rfl, k, _, rfl, .inr (sameT (s2.trans s3) hk), rfl, flat_ints works, _, rfl, ?_⟩
      rw [if_neg Bool.false_ne_true, inV_int]
      refine ite2 (fun c => ?_) (fun c => ?_)
      · refine ⟨_, rfl, _, rfl, D, _, rfl, .inl (.inl (.inl (s3 _ _ hD))), rfl, flat_ints _, _, rfl, ?_⟩
        rw [if_pos rfl, inV_int]
        refine ite2 (fun c2 => ?_) (fun c2 => ?_)
        · refine ⟨_, rfl, _, hD3, szl (by rw [List.length_map]; omega), same_own s3 nD2, ?_⟩
          rw [upd_same, st, if_pos (by rw [c, c2]; rfl), List.map_append]
          rfl
        · refine ⟨s3, ?_⟩
          rw [st, if_neg (by rw [c]; simpa using c2), List.append_nil]
          exact hD3
      · refine iteF ⟨s3, ?_⟩
        rw [st, if_neg (by rw [Bool.eq_false_iff.mpr c]; simp), List.append_nil]
        exact hD3
    rintro H3 ⟨s3, hD3⟩
    rw [List.length_map, List.take_length] at hD3
    refine ⟨_, rfl, D, _, rfl, .inl (.inl (.inl (s3 _ _ hD))), ?_⟩
    refine ⟨_, rfl, _, rfl, _, rfl, W, vw, _, _, rfl, rfl, (s2.trans s3).seq hW, atI_nat hv, tw, _, rfl, .inr (sameT (s2.trans s3) hRw), _, _, rfl, rfl, _, rfl, D2, _, rfl, .inl (.inl (.inl hD3)), _, _, rfl, _, _, rfl, rfl, ?_⟩
    rw [List.length_map, List.length_map, List.length_map]
    exact q H3 (s2.trans s3)
end
end Ew
namespace Ew
open PySem PySem.Spec PyProof.Rows L2
/-- rows of readers, a set: what both sides ask of them -/
structure Rws (K : PySem.W.Frag) (H : Hp) (W k : Addr) (rs : List (Int × List Int)) (vw : List V) (ws : List (List Int)) (n : Nat) (works : List Int) : Prop where
  lst : SqL K H W vw
  prs : Paired (RowT K H) vw ws
  len : ws.length = rs.length
  r60 : ∀ r ∈ rs, r.2.length ≤ 60
  w60 : ∀ w ∈ ws, w.length ≤ 60
  set : SqT K H k (works.map V.int)
  s60 : works.length ≤ 60
  inn : ∀ z ∈ works, 0 ≤ z ∧ z < (n : Int)
theorem Rws.same {K : PySem.W.Frag} {H H' : Hp} {W k : Addr} {rs vw ws n works} (h : Rws K H W k rs vw ws n works) (s : Same H H') : Rws K H' W k rs vw ws n works :=
  ⟨s.seq h.lst, L2.Paired.mapP h.prs fun _ _ z => z.same s, h.len, h.r60, h.w60, sameT s h.set, h.s60, h.inn⟩
theorem Rws.at_ {K : PySem.W.Frag} {H : Hp} {W k : Addr} {rs vw ws n works} (h : Rws K H W k rs vw ws n works) {m : Nat} (hm : m < rs.length) : ∃ r w, At rs ws (m : Int) r w := by
  have h2 : m < ws.length := by rw [h.len]; exact hm
  exact ⟨rs[m], ws[m], by omega, by simp [hm], by simp [h2], h.r60 _ (List.getElem_mem _), h.w60 _ (List.getElem_mem _)⟩
theorem At.cnt {rs : List (Int × List Int)} {ws : List (List Int)} {i : Int} {r : Int × List Int} {w works : List Int} (h : At rs ws i r w) (g : Int × List Int → List Int → List Int → Int) : cntAt g rs ws works i = g r w works := by
  unfold cntAt
  rw [h.rd, h.row]
theorem pres_mem {n : Nat} {as : List Int} {p : Int} (h : p ∈ pres n as) : ∃ m : Nat, m < n ∧ p = (m : Int) := by
  unfold pres at h
  obtain ⟨m, hm, rfl⟩ := List.mem_map.mp h
  exact ⟨m, List.mem_range.mp (List.mem_filter.mp hm).1, rfl⟩
def spPkShort (K : PySem.W.Frag) (C : Addr) : Sp := fun vs H Q _ => ∃ (f x W ab k : Addr) (ds : List Int) (us : List V) (rs : List (Int × List Int)) (vw : List V) (ws : List (List Int)) (as works : List Int), vs = [.ref x, .ref W, .ref ab, .ref k] ∧ IsBook K C f H x ds us rs ∧ rs.length ≤ 60 ∧
  Rws K H W k rs vw ws ds.length works ∧ SqT K H ab (as.map V.int) ∧ ∀ H', Same H H' → Q (.bl (decide (((pres rs.length as).map (cntAt cnt2 rs ws works)).sum < wanted ds works))) H'
def spLack (K : PySem.W.Frag) : Sp := fun vs H Q _ => ∃ (A R W S k : Addr) (ds : List Int) (us : List V) (rs : List (Int × List Int)) (vw : List V) (ws : List (List Int)) (ps works : List Int), vs = [.ref A, .ref R, .ref W, .ref S, .ref k] ∧ SqL K H A (ds.map V.int) ∧ SqL K H R us ∧ Paired (RdT K H) us rs ∧
  Rws K H W k rs vw ws ds.length works ∧ SqL K H S (ps.map V.int) ∧ ps.length ≤ 60 ∧ (∀ p ∈ ps, ∃ m : Nat, m < rs.length ∧ p = (m : Int)) ∧ ∀ H', Same H H' → Q (.int (wanted ds works - (ps.map (cntAt cnt1 rs ws works)).sum)) H'
def spShort (K : PySem.W.Frag) : Sp := fun vs H Q _ => ∃ (A R W ab k : Addr) (ds : List Int) (us : List V) (rs : List (Int × List Int)) (vw : List V) (ws : List (List Int)) (as works : List Int), vs = [.ref A, .ref R, .ref W, .ref ab, .ref k] ∧ SqL K H A (ds.map V.int) ∧ SqL K H R us ∧ Paired (RdT K H) us rs ∧ rs.length ≤ 60 ∧
  Rws K H W k rs vw ws ds.length works ∧ SqT K H ab (as.map V.int) ∧ ∀ H', Same H H' → Q (.bl (decide (0 < wanted ds works - ((pres rs.length as).map (cntAt cnt1 rs ws works)).sum))) H'
theorem ds_at {ds : List Int} {z : Int} (h : 0 ≤ z ∧ z < (ds.length : Int)) : atI (ds.map V.int) z = some (.int (ds.getD z.toNat 0)) := by
  obtain ⟨j, rfl⟩ : ∃ j : Nat, z = (j : Int) := ⟨z.toNat, by omega⟩
  have hj : j < ds.length := by omega
  refine atI_nat ?_
  rw [Int.toNat_natCast]
  simp [hj]
section
variable {P : Program} {w : World} {K : PySem.W.Frag} {mg : Str → Option Value} {base : Heap} {C : Addr}
theorem scPkShort : FnScope ["book", "rows", "absent", "works", "demands", "counts", "reader", "work"] ["book", "rows", "absent", "works"] (defScope sPkShort) := ⟨rfl, rfl, rfl, by decide +kernel, rfl, by decide +kernel, by decide +kernel⟩
theorem ok_pkShort {f fC fP : Addr} {fd fdC fdP : FuncData} (F : Fun K "is_short" "is_short" sPkShort f fd) (B : Bi mg) (T : BookTxt K mg C) (FC : Fun K "count" "count" sPkCount fC fdC) (bC : Binds K fdC ["book", "rows", "reader", "works"] []) (gC : mg "count" = some (.ref fC))
    (FP : Fun K "present_readers" "present_readers" sPkPrs fP fdP) (bP : Binds K fdP ["book", "absent"] []) (gP : mg "present_readers" = some (.ref fP)) : FnOk P w K mg base CX0 3 f fd ["book", "rows", "absent", "works"] (spPkShort K C) := by
  obtain ⟨fD, fdD, FD, bD, mD⟩ := T.dem
  have GD : FnOk P w K mg base CX0 1 fD fdD ["self"] (spBkDem K C) := ok_bkDem FD B T
  have GC : FnOk P w K mg base CX0 2 fC fdC ["book", "rows", "reader", "works"] (spPkCount K C) := ok_pkCount FC B T
  have GP : FnOk P w K mg base CX0 2 fP fdP ["book", "absent"] (spPkPrs K C) := ok_pkPrs FP B T
  refine F.ok scPkShort (fun vs H Q E h => ?_) (fun cdv A outer s H vs Q E hr h => ?_)
  · obtain ⟨f, x, W, ab, k, ds, us, rs, vw, ws, as, works, rfl, _⟩ := h
    rfl
  · obtain ⟨f, x, W, ab, k, ds, us, rs, vw, ws, as, works, rfl, hb, hrl, rw_, hA, q⟩ := h
    have hr1 : Room 1 _ := hr.mono (by decide)
    refine ⟨_, pss_cons (ps_set (i := 4) scPkShort.nd rfl (.inr rfl) (pe_meth0 (pv 0) T.cl mD GD hr1 bD .nil pass0))
      (pss_cons (ps_setLc (i := 5) (own := [("reader", 6)]) (g := gName 6) (tt := tYes) (te := tCall (spPkCount K C) [] E0 (tCons (tVar 0) (tCons (tVar 1) (tCons (tVar 6) (tCons (tVar 3) tNil))))) (by rfl) scPkShort.nd rfl rfl (sw_true rfl rfl rfl (by decide +kernel))
          (pi_list (pe_call GP hr (by rfl) gP FP.kp bP .nil pass0 (pa_cons (pv 0) (pa_cons (pv 2) pa_nil))))
          (blkOk_by (own := [("reader", 6)]) (N := ["book", "rows", "absent", "works", "demands", "counts", "reader", "work"]) (sc := defScope sPkShort) (by decide +kernel))
          (fun _ _ _ _ _ => pg_name (i := 6) scPkShort.nd rfl (.inl rfl)) (fun _ _ _ _ _ => pts_nil) (fun _ _ _ _ _ => pe_call GC hr (by rfl) gC FC.kp bC .nil pass0 (pa_cons (pv 0) (pa_cons (pv 1) (pa_cons (pv 6) (pa_cons (pv 3) pa_nil))))))
      (pss_one (ps_ret (pe_cmpR op_lt (pe_callB (cr_sum rfl) (by rfl) B.sum (by decide +kernel) (pa_cons (pv 5) pa_nil)) (pe_callB (cr_sum rfl) (by rfl) B.sum (by decide +kernel) (pa_cons
        (pe_lc (own := [("work", 7)]) (g := gName 7) (tt := tYes) (te := tOp (rIxL K) (tVar 4) (tVar 7)) rfl scPkShort.nd (pi_tup (pv 3))
          (blkOk_by (own := [("work", 7)]) (N := ["book", "rows", "absent", "works", "demands", "counts", "reader", "work"]) (sc := defScope sPkShort) (by decide +kernel))
          (fun _ _ _ _ _ => pg_name (i := 7) scPkShort.nd rfl (.inl rfl)) (fun _ _ _ _ _ => pts_nil) (fun _ _ _ _ _ => pe_ix ix_list (pv 4) (pv 7) (fun _ _ => rfl))) pa_nil)) (nomark _))))), ?_⟩
    obtain ⟨dx, Ab, Rb, hx, _, _, _, _, hPr⟩ := id hb
    have hul : us.length = rs.length := Paired.len hPr
    refine ⟨_, rfl, x, dx, _, rfl, hx, bf_no _ _ (by decide +kernel) (by decide +kernel), f, x, ds, us, rs, rfl, hb, fun H1 A1 s1 nA1 hA1 => ?_⟩
    refine ⟨_, rfl, _, rfl, f, x, ab, ds, us, rs, as, rfl, hb.same s1, by omega, sameT s1 hA, fun H2 p s2 np hp => ?_⟩
    rw [hul] at hp
    have s12 := s1.trans s2
    refine ⟨p, rfl, ⟨_, .inl (.inl hp)⟩, fun D nD => ?_⟩
    have pl := pres_len rs.length as
    refine lc_list (K := K) (a := p) (xs := (pres rs.length as).map V.int) (fun i H' => Same H2 H' ∧ H' D = some (.lst ((((pres rs.length as).take i).map (cntAt cnt2 rs ws works)).map V.int))) ⟨sameU nD, upd_same⟩ (fun i H' _ ⟨e, _⟩ => .inl (.inl (e _ _ hp))) ?_ ?_
    · rintro i y H3 hy ⟨s3, hD⟩
      obtain ⟨z, hz, rfl⟩ := at_map hy
      obtain ⟨m, hm, rfl⟩ := pres_mem (List.mem_of_getElem? hz)
      obtain ⟨r, w, at_⟩ := rw_.at_ hm
      have s03 := s12.trans s3
      have rw3 := rw_.same s03
      refine ⟨rfl, ?_⟩
      dsimp only [tYes]
      refine iteT ?_
      refine ⟨_, rfl, _, rfl, _, rfl, _, rfl, f, x, W, k, (m : Int), ds, us, rs, vw, ws, r, w, works, rfl, hb.same s03, rw3.lst, rw3.prs, rw3.set, rw3.s60, at_, fun H4 s4 => ?_⟩
      refine ⟨_, s4 _ _ hD, szl (by rw [List.length_map, List.length_map, List.length_take]; omega), same_own (s3.trans s4) nD, ?_⟩
      rw [upd_same, take_more hz, List.map_append, List.map_append]
      show some (HO.lst (_ ++ [V.int (cnt2 r w works)])) = some (HO.lst (_ ++ [V.int (cntAt cnt2 rs ws works (m : Int))]))
      rw [at_.cnt]
    rintro H3 ⟨s3, hD⟩
    rw [List.length_map, List.take_length] at hD
    have s03 := s12.trans s3
    refine ⟨_, rfl, D, _, rfl, .inl (.inl hD), ?_⟩
    have rw3 := rw_.same s03
    refine ⟨_, rfl, k, rfl, ⟨_, rw3.set⟩, fun D2 nD2 => ?_⟩
    refine lc_tup (K := K) (a := k) (xs := works.map V.int) (fun i H' => Same H3 H' ∧ H' D2 = some (.lst (((works.take i).map fun w => ds.getD w.toNat 0).map V.int))) ⟨sameU nD2, upd_same⟩ (fun i H' _ ⟨e, _⟩ => sameT e rw3.set) ?_ ?_
    · rintro i y H4 hy ⟨s4, hD2⟩
      obtain ⟨z, hz, rfl⟩ := at_map hy
      refine ⟨rfl, ?_⟩
      dsimp only [tYes]
      refine iteT ?_
      refine ⟨_, rfl, _, rfl, A1, _, _, _, rfl, rfl, .inl (.inl ((s2.trans (s3.trans s4)) _ _ hA1)), ds_at (rw_.inn z (List.mem_of_getElem? hz)), ?_⟩
      have s60 := rw_.s60
      refine ⟨_, hD2, szl (by rw [List.length_map, List.length_map, List.length_take]; omega), same_own s4 nD2, ?_⟩
      rw [upd_same, take_more hz, List.map_append, List.map_append]
      rfl
    rintro H4 ⟨s4, hD2⟩
    rw [List.length_map, List.take_length] at hD2
    exact ⟨D2, _, rfl, .inl (.inl hD2), _, _, rfl, rfl, q H4 (s03.trans s4)⟩
theorem scLack : FnScope ["demands", "readers", "rows", "some", "works", "wanted", "work", "one"] ["demands", "readers", "rows", "some", "works"] (defScope sLack) := ⟨rfl, rfl, rfl, by decide +kernel, rfl, by decide +kernel, by decide +kernel⟩
theorem ok_lack {f fC : Addr} {fd fdC : FuncData} (F : Fun K "_law_lack" "_law_lack" sLack f fd) (B : Bi mg) (FC : Fun K "_law_count" "_law_count" sCnt fC fdC) (bC : Binds K fdC ["readers", "rows", "reader", "works"] []) (gC : mg "_law_count" = some (.ref fC)) :
    FnOk P w K mg base CX0 2 f fd ["demands", "readers", "rows", "some", "works"] (spLack K) := by
  have GC : FnOk P w K mg base CX0 1 fC fdC ["readers", "rows", "reader", "works"] (spCnt K) := ok_cnt FC B
  refine F.ok scLack (fun vs H Q E h => ?_) (fun cdv A outer s H vs Q E hr h => ?_)
  · obtain ⟨A, R, W, S, k, ds, us, rs, vw, ws, ps, works, rfl, _⟩ := h
    rfl
  · obtain ⟨A, R, W, S, k, ds, us, rs, vw, ws, ps, works, rfl, hA, hR, hP, rw_, hS, hpl, hps, q⟩ := h
    refine ⟨_, pss_cons (ps_set (i := 5) scLack.nd rfl (.inl rfl) (pe_callB (cr_sum rfl) (by rfl) B.sum (by decide +kernel) (pa_cons
        (pe_lc (own := [("work", 6)]) (g := gName 6) (tt := tYes) (te := tOp (rIxL K) (tVar 0) (tVar 6)) rfl scLack.nd (pi_tup (pv 4))
          (blkOk_by (own := [("work", 6)]) (N := ["demands", "readers", "rows", "some", "works", "wanted", "work", "one"]) (sc := defScope sLack) (by decide +kernel))
          (fun _ _ _ _ _ => pg_name (i := 6) scLack.nd rfl (.inl rfl)) (fun _ _ _ _ _ => pts_nil) (fun _ _ _ _ _ => pe_ix ix_list (pv 0) (pv 6) (fun _ _ => rfl))) pa_nil)))
      (pss_one (ps_ret (pe_op op_sub (pv 5) (pe_callB (cr_sum rfl) (by rfl) B.sum (by decide +kernel) (pa_cons
        (pe_lc (own := [("one", 7)]) (g := gName 7) (tt := tYes) (te := tCall (spCnt K) [] E0 (tCons (tVar 1) (tCons (tVar 2) (tCons (tVar 7) (tCons (tVar 4) tNil))))) rfl scLack.nd (pi_list (pv 3))
          (blkOk_by (own := [("one", 7)]) (N := ["demands", "readers", "rows", "some", "works", "wanted", "work", "one"]) (sc := defScope sLack) (by decide +kernel))
          (fun _ _ _ _ _ => pg_name (i := 7) scLack.nd rfl (.inl rfl)) (fun _ _ _ _ _ => pts_nil) (fun _ _ _ _ _ => pe_call GC hr (by rfl) gC FC.kp bC .nil pass0 (pa_cons (pv 1) (pa_cons (pv 2) (pa_cons (pv 7) (pa_cons (pv 4) pa_nil)))))) pa_nil))))), ?_⟩
    refine ⟨_, rfl, k, rfl, ⟨_, rw_.set⟩, fun D2 nD2 => ?_⟩
    refine lc_tup (K := K) (a := k) (xs := works.map V.int) (fun i H' => Same H H' ∧ H' D2 = some (.lst (((works.take i).map fun w => ds.getD w.toNat 0).map V.int))) ⟨sameU nD2, upd_same⟩ (fun i H' _ ⟨e, _⟩ => sameT e rw_.set) ?_ ?_
    · rintro i y H4 hy ⟨s4, hD2⟩
      obtain ⟨z, hz, rfl⟩ := at_map hy
      refine ⟨rfl, ?_⟩
      dsimp only [tYes]
      refine iteT ?_
      refine ⟨_, rfl, _, rfl, A, _, _, _, rfl, rfl, s4.seq hA, ds_at (rw_.inn z (List.mem_of_getElem? hz)), ?_⟩
      have s60 := rw_.s60
      refine ⟨_, hD2, szl (by rw [List.length_map, List.length_map, List.length_take]; omega), same_own s4 nD2, ?_⟩
      rw [upd_same, take_more hz, List.map_append, List.map_append]
      rfl
    rintro H4 ⟨s4, hD2⟩
    rw [List.length_map, List.take_length] at hD2
    refine ⟨D2, _, rfl, .inl (.inl hD2), ?_⟩
    refine ⟨_, rfl, _, rfl, S, rfl, ⟨_, s4.seq hS⟩, fun D nD => ?_⟩
    refine lc_list (K := K) (a := S) (xs := ps.map V.int) (fun i H' => Same H4 H' ∧ H' D = some (.lst (((ps.take i).map (cntAt cnt1 rs ws works)).map V.int))) ⟨sameU nD, upd_same⟩ (fun i H' _ ⟨e, _⟩ => (s4.trans e).seq hS) ?_ ?_
    · rintro i y H5 hy ⟨s5, hD⟩
      obtain ⟨z, hz, rfl⟩ := at_map hy
      obtain ⟨m, hm, rfl⟩ := hps z (List.mem_of_getElem? hz)
      obtain ⟨r, w, at_⟩ := rw_.at_ hm
      have s05 := s4.trans s5
      have rw5 := rw_.same s05
      refine ⟨rfl, ?_⟩
      dsimp only [tYes]
      refine iteT ?_
      refine ⟨_, rfl, _, rfl, _, rfl, _, rfl, R, W, k, (m : Int), us, rs, vw, ws, r, w, works, rfl, s05.seq hR, L2.Paired.mapP hP fun _ _ z => z.same s05, rw5.lst, rw5.prs, rw5.set, rw5.s60, at_, fun H6 s6 => ?_⟩
      refine ⟨_, s6 _ _ hD, szl (by rw [List.length_map, List.length_map, List.length_take]; omega), same_own (s5.trans s6) nD, ?_⟩
      rw [upd_same, take_more hz, List.map_append, List.map_append]
      show some (HO.lst (_ ++ [V.int (cnt1 r w works)])) = some (HO.lst (_ ++ [V.int (cntAt cnt1 rs ws works (m : Int))]))
      rw [at_.cnt]
    rintro H5 ⟨s5, hD⟩
    rw [List.length_map, List.take_length] at hD
    exact ⟨D, _, rfl, .inl (.inl hD), _, _, rfl, rfl, q H5 (s4.trans s5)⟩
theorem scShort : FnScope ["demands", "readers", "rows", "absent", "works"] ["demands", "readers", "rows", "absent", "works"] (defScope sShort) := ⟨rfl, rfl, rfl, by decide +kernel, rfl, by decide +kernel, by decide +kernel⟩
theorem ok_short {f fC fL fP : Addr} {fd fdC fdL fdP : FuncData} (F : Fun K "_law_is_short" "_law_is_short" sShort f fd) (B : Bi mg) (FC : Fun K "_law_count" "_law_count" sCnt fC fdC) (bC : Binds K fdC ["readers", "rows", "reader", "works"] []) (gC : mg "_law_count" = some (.ref fC))
    (FL : Fun K "_law_lack" "_law_lack" sLack fL fdL) (bL : Binds K fdL ["demands", "readers", "rows", "some", "works"] []) (gL : mg "_law_lack" = some (.ref fL)) (FP : Fun K "_law_present" "_law_present" sPrs fP fdP) (bP : Binds K fdP ["readers", "absent"] []) (gP : mg "_law_present" = some (.ref fP)) :
    FnOk P w K mg base CX0 3 f fd ["demands", "readers", "rows", "absent", "works"] (spShort K) := by
  have GL : FnOk P w K mg base CX0 2 fL fdL ["demands", "readers", "rows", "some", "works"] (spLack K) := ok_lack FL B FC bC gC
  have GP : FnOk P w K mg base CX0 1 fP fdP ["readers", "absent"] (spPrs K) := ok_prs FP B
  refine F.ok scShort (fun vs H Q E h => ?_) (fun cdv A outer s H vs Q E hr h => ?_)
  · obtain ⟨A, R, W, ab, k, ds, us, rs, vw, ws, as, works, rfl, _⟩ := h
    rfl
  · obtain ⟨A, R, W, ab, k, ds, us, rs, vw, ws, as, works, rfl, hA, hR, hP, hrl, rw_, hab, q⟩ := h
    have hr1 : Room 1 _ := hr.mono (by decide)
    have hul : us.length = rs.length := Paired.len hP
    refine ⟨_, pss_one (ps_ret (pe_cmpR op_gt (pe_call GL hr (by rfl) gL FL.kp bL .nil pass0 (pa_cons (pv 0) (pa_cons (pv 1) (pa_cons (pv 2) (pa_cons (pe_call GP hr1 (by rfl) gP FP.kp bP .nil pass0 (pa_cons (pv 1) (pa_cons (pv 3) pa_nil))) (pa_cons (pv 4) pa_nil)))))) pe_int (nomark _))), ?_⟩
    refine ⟨_, rfl, _, rfl, _, rfl, _, rfl, _, rfl, R, ab, us, as, rfl, hR, by omega, hab, fun H1 p s1 np hp => ?_⟩
    rw [hul] at hp
    have pl := pres_len rs.length as
    refine ⟨_, rfl, A, R, W, p, k, ds, us, rs, vw, ws, _, works, rfl, s1.seq hA, s1.seq hR, L2.Paired.mapP hP fun _ _ z => z.same s1, rw_.same s1, .inl (.inl hp), by omega, fun z hz => pres_mem hz, fun H2 s2 => ?_⟩
    exact ⟨_, _, rfl, rfl, q H2 (s1.trans s2)⟩
end
end Ew
namespace Ew
open PySem PySem.Spec PyProof.Rows L2
abbrev sSets : Stmt := (top 28)
def TupV (K : PySem.W.Frag) (H : Hp) (n : Nat) (v : V) : Prop := ∃ w, RowT K H v w ∧ Asc n w
def SetV (K : PySem.W.Frag) (H : Hp) (n : Nat) (v : V) : Prop := ∃ w, RowT K H v w ∧ Asc n w ∧ w ≠ []
theorem TupV.same {K : PySem.W.Frag} {H H' : Hp} {n : Nat} {v : V} (h : TupV K H n v) (s : Same H H') : TupV K H' n v := let ⟨w, a, b⟩ := h; ⟨w, a.same s, b⟩
theorem SetV.same {K : PySem.W.Frag} {H H' : Hp} {n : Nat} {v : V} (h : SetV K H n v) (s : Same H H') : SetV K H' n v := let ⟨w, a, b⟩ := h; ⟨w, a.same s, b⟩
theorem SetV.upd {K : PySem.W.Frag} {H : Hp} {n : Nat} {v : V} {D : Addr} {xs : List V} {o : HO} (h : SetV K H n v) (e : H D = some (.lst xs)) : SetV K (upd H D o) n v := let ⟨w, a, b⟩ := h; ⟨w, a.upd e, b⟩
theorem SetV.tup {K : PySem.W.Frag} {H : Hp} {n : Nat} {v : V} (h : SetV K H n v) : TupV K H n v := let ⟨w, a, b, _⟩ := h; ⟨w, a, b⟩
theorem asc_snoc {n t : Int} {w : List Int} (h : Asc n w) (hl : ∀ x ∈ w, x < t) (h0 : 0 ≤ t) (ht : t < n) : Asc n (w ++ [t]) := by
  refine ⟨List.pairwise_append.mpr ⟨h.1, List.pairwise_singleton _ _, fun x hx y hy => ?_⟩, fun x hx => ?_⟩
  · rw [List.mem_singleton.mp hy]
    exact hl x hx
  · rcases List.mem_append.mp hx with q | q
    · exact h.2 x q
    · rw [List.mem_singleton.mp q]
      exact ⟨h0, ht⟩
theorem below_last {w : List Int} {l t : Int} (h : (w ++ [l]).Pairwise (· < ·)) (hl : l < t) : ∀ x ∈ w ++ [l], x < t := by
  intro x hx
  have := (List.pairwise_append.mp h).2.2
  rcases List.mem_append.mp hx with q | q
  · have := this x q l (by simp)
    omega
  · rw [List.mem_singleton.mp q]
    exact hl
def spSets (K : PySem.W.Frag) : Sp := fun vs H Q _ => ∃ (T : Addr) (n : Nat), vs = [.ref T] ∧ SqL K H T (((List.range n).map fun i => ((i : Nat) : Int)).map V.int) ∧ n ≤ 6 ∧
  ∀ H' p v0 vs', Same H H' → H' p = some (.lst (v0 :: vs')) → (∀ v ∈ vs', SetV K H' n v) → vs'.length ≤ 300000 → Q (.ref p) H'
section
variable {P : Program} {w : World} {K : PySem.W.Frag} {mg : Str → Option Value} {base : Heap} {C : Addr}
theorem scSets : FnScope ["things", "found", "last", "turn", "new", "one", "thing"] ["things"] (defScope sSets) := ⟨rfl, rfl, rfl, by decide +kernel, rfl, by decide +kernel, by decide +kernel⟩
theorem ok_sets {f : Addr} {fd : FuncData} (F : Fun K "_law_sets" "_law_sets" sSets f fd) (B : Bi mg) : FnOk P w K mg base CX0 1 f fd ["things"] (spSets K) := by
  refine F.ok scSets (fun vs H Q E h => ?_) (fun cdv A outer s H vs Q E hr h => ?_)
  · obtain ⟨T, n, rfl, _⟩ := h
    rfl
  · obtain ⟨T, n, rfl, hT, hn, q⟩ := h
    refine ⟨_, pss_cons (ps_par (i := 1) (j := 2) (by rfl) scSets.nd rfl rfl (by decide) rfl rfl (pa_cons (pe_lst (pa_cons (pe_tup pa_nil) pa_nil)) (pa_cons (pe_lst (pa_cons (pe_tup pa_nil) pa_nil)) pa_nil)) (by rfl))
      (pss_cons (ps_for PassesOwn.never rfl (pi_range1 rfl B.range (pa_cons (pe_callB call_len_seq (by rfl) B.len PySem.boot_len (pa_cons (pv 0) pa_nil)) pa_nil)) (pg_name (i := 3) scSets.nd rfl (.inl rfl))
        (pss_cons (ps_set (i := 4) scSets.nd rfl (.inl rfl) (pe_lst pa_nil))
        (pss_cons (ps_for PassesOwn.never rfl (pi_list (pv 2)) (pg_name (i := 5) scSets.nd rfl (.inr rfl))
          (pss_one (ps_set (i := 4) scSets.nd rfl (.inl rfl) (pe_op op_cat (pv 4)
            (pe_lc (own := [("thing", 6)]) (g := gName 6) (tt := tOr (tTest (tOp (rEqD K) (tVar 5) (tTup tNil))) (tTest (tOp (rI0 fun i j => .bl (decide (j < i))) (tVar 6) (tOp (rIxT K) (tVar 5) (tUn (fun x H Q => ∃ i, x = .int i ∧ Q (.int (-i)) H) (tC (.int 1)))))))
              (te := tOp (rCatA K) (tVar 5) (tTup (tCons (tVar 6) tNil))) rfl scSets.nd (pi_list (pv 0))
              (blkOk_by (own := [("thing", 6)]) (N := ["things", "found", "last", "turn", "new", "one", "thing"]) (sc := defScope sSets) (by decide +kernel))
              (fun _ _ _ _ _ => pg_name (i := 6) scSets.nd rfl (.inl rfl))
              (fun _ _ _ _ _ => pts_one (PW.pt (pw_or (pt_cmpR (op_eqD hr.units) (pv 5) (pe_tup pa_nil) (nomark _)) (pw_or1 (pt_cmpR op_gt (pv 6) (pe_ix ix_tup (pv 5) (pe_un un_neg pe_int) (fun _ _ => rfl)) (nomark _))))))
              (fun _ _ _ _ _ => pe_op op_catA (pv 5) (pe_tup (pa_cons (pv 6) pa_nil)))))))
          )
        (pss_one (ps_par (i := 1) (j := 2) (by rfl) scSets.nd rfl rfl (by decide) rfl rfl (pa_cons (pe_op op_cat (pv 1) (pv 4)) (pa_cons (pv 4) pa_nil)) (by rfl))))))
      (pss_one (ps_ret (pv 1)))), ?_⟩
    have one_ : 1 ≤ sizeLine := by decide
    have tlen : (((List.range n).map fun i => ((i : Nat) : Int)).map V.int).length = n := by rw [List.length_map, List.length_map, List.length_range]
    refine ⟨Nat.zero_le _, fun e1 n1 => ⟨one_, fun Fo n2 => ⟨Nat.zero_le _, fun e2 n3 => ⟨one_, fun La n4 => ⟨_, _, rfl, ?_⟩⟩⟩⟩⟩
    have s1 : Same H (upd H e1 (.tup [])) := sameU n1
    have s2 : Same (upd H e1 (.tup [])) (upd (upd H e1 (.tup [])) Fo (.lst [.ref e1])) := sameU n2
    have z2 : upd (upd H e1 (.tup [])) Fo (.lst [.ref e1]) Fo = some (.lst [.ref e1]) := upd_same
    have s12 := s1.trans s2
    generalize upd (upd H e1 (.tup [])) Fo (.lst [.ref e1]) = H2 at *
    have s3 : Same H2 (upd H2 e2 (.tup [])) := sameU n3
    have z3 : upd H2 e2 (.tup []) e2 = some (.tup []) := upd_same
    generalize upd H2 e2 (.tup []) = H3 at *
    have s4 : Same H3 (upd H3 La (.lst [.ref e2])) := sameU n4
    have z4 : upd H3 La (.lst [V.ref e2]) La = some (.lst [.ref e2]) := upd_same
    have s04 := s12.trans (s3.trans s4)
    have z2' := (s3.trans s4) _ _ z2
    have z3' := s4 _ _ z3
    generalize upd H3 La (.lst [.ref e2]) = H4 at *
    refine ⟨_, rfl, T, _, rfl, .inl (s04.seq hT), _, rfl, by omega, by omega, ?_⟩
    refine for_range (lo := 0) (fun i σ H' => ∃ (Fo La : Addr) (v0 : V) (vF vL : List V) (y3 y4 y5 : Option V), σ = [some (.ref T), some (.ref Fo), some (.ref La), y3, y4, y5, none] ∧ Same H H' ∧ H' Fo = some (.lst (v0 :: vF)) ∧ (∀ v ∈ vF, SetV K H' n v) ∧ vF.length ≤ 8 ^ i ∧
        H' La = some (.lst vL) ∧ (∀ v ∈ vL, TupV K H' n v) ∧ vL.length ≤ 6 ^ i) ⟨Fo, La, _, [], _, none, none, none, rfl, s04, z2', fun v hv => by simp at hv, by simp, z4, fun v hv => ?_, by simp⟩ ?_ ?_
    · rw [List.mem_singleton.mp hv]
      exact ⟨[], ⟨e2, rfl, .inl (.inl z3')⟩, .nil, fun x hx => by simp at hx⟩
    · rintro i σ H5 hi ⟨Fo, La, v0, vF, vL, y3, y4, y5, rfl, s5, hF, aF, lF, hL, aL, lL⟩
      have hi' : i < n := by
        rw [tlen] at hi
        simpa using hi
      have h6 : (6 : Nat) ^ i ≤ 6 ^ 5 := Nat.pow_le_pow_right (by decide) (by omega)
      have h8 : (8 : Nat) ^ i ≤ 8 ^ 5 := Nat.pow_le_pow_right (by decide) (by omega)
      have h68 : (6 : Nat) ^ i ≤ 8 ^ i := Nat.pow_le_pow_left (by decide) i
      refine ⟨Nat.zero_le _, fun Nw nN => ?_⟩
      have tN : Same H5 (upd H5 Nw (.lst [])) := sameU nN
      have zN : upd H5 Nw (.lst []) Nw = some (.lst []) := upd_same
      generalize upd H5 Nw (.lst []) = H6 at *
      refine ⟨_, rfl, La, rfl, ⟨_, .inl (.inl (tN _ _ hL))⟩, ?_⟩
      refine for_list (K := K) (a := La) (xs := vL) (fun j σ H' => ∃ (Nw : Addr) (vN : List V) (y5 : Option V), σ = [some (.ref T), some (.ref Fo), some (.ref La), some (.int (0 + (i : Int))), some (.ref Nw), y5, none] ∧ Same H5 H' ∧ H' Nw = some (.lst vN) ∧ (∀ v ∈ vN, SetV K H' n v) ∧ vN.length ≤ 6 * j)
        ⟨Nw, [], y5, rfl, tN, zN, fun v hv => by simp at hv, by simp⟩ (fun j σ H' _ ⟨_, _, _, _, e, _⟩ => .inl (.inl (e _ _ hL))) ?_ ?_
      · rintro j v σ H7 hv ⟨Nw, vN, y5, rfl, s7, hN, aN, lN⟩
        have hjl : j < vL.length := (List.getElem?_eq_some_iff.mp hv).1
        obtain ⟨w, ⟨tw, rfl, hw⟩, aw⟩ := (aL v (List.mem_of_getElem? hv)).same s7
        refine ⟨_, rfl, _, rfl, T, rfl, ⟨_, (s5.trans s7).seq hT⟩, fun D nD => ?_⟩
        refine lc_list (K := K) (a := T) (xs := ((List.range n).map fun i => ((i : Nat) : Int)).map V.int) (fun m H' => ∃ vD : List V, Same H7 H' ∧ H' D = some (.lst vD) ∧ (∀ v ∈ vD, SetV K H' n v) ∧ vD.length ≤ m) ⟨[], sameU nD, upd_same, fun v hv => by simp at hv, Nat.le_refl _⟩ (fun m H' _ ⟨_, e, _⟩ => ((s5.trans s7).trans e).seq hT) ?_ ?_
        · rintro m x H8 hx ⟨vD, s8, hD, aD, lD⟩
          obtain ⟨z, hz, rfl⟩ := at_map hx
          obtain ⟨t, ht, rfl⟩ : ∃ t : Nat, t < n ∧ z = (t : Int) := by
            obtain ⟨t, ht, e⟩ := List.mem_map.mp (List.mem_of_getElem? hz)
            exact ⟨t, List.mem_range.mp ht, e.symm⟩
          have hm : m < n := by
            have := (List.getElem?_eq_some_iff.mp hx).1
            rw [tlen] at this
            exact this
          have hw8 := sameT s8 hw
          refine ⟨rfl, _, rfl, Nat.zero_le _, fun e3 ne3 => ?_⟩
          have t9 : Same H8 (upd H8 e3 (.tup [])) := sameU ne3
          have z9 : upd H8 e3 (.tup []) e3 = some (.tup []) := upd_same
          generalize upd H8 e3 (.tup []) = H9 at *
          have hw9 := sameT t9 hw8
          -- the element, where it may stand
          have elem : (∀ x ∈ w, x < (t : Int)) → tOp (rCatA K) (tVar 5) (tTup (tCons (tVar 6) tNil)) [some (.ref T), some (.ref Fo), some (.ref La), some (.int (0 + (i : Int))), some (.ref Nw), some (.ref tw), some (.int (t : Int))] H9 fun y H4 => ∃ acc, H4 D = some (.lst acc) ∧ acc.length < sizeLine ∧
              ∃ vD : List V, Same H7 (upd H4 D (.lst (acc ++ [y]))) ∧ (upd H4 D (.lst (acc ++ [y]))) D = some (.lst vD) ∧ (∀ v ∈ vD, SetV K (upd H4 D (.lst (acc ++ [y]))) n v) ∧ vD.length ≤ m + 1 := by
            intro hlt
            have as' := asc_snoc aw hlt (by omega) (by omega)
            refine ⟨_, rfl, _, rfl, one_, fun q1 nq => ?_⟩
            have t10 : Same H9 (upd H9 q1 (.tup [.int (t : Int)])) := sameU nq
            have z10 : upd H9 q1 (.tup [V.int (t : Int)]) q1 = some (.tup [.int (t : Int)]) := upd_same
            generalize upd H9 q1 (.tup [.int (t : Int)]) = H10 at *
            have fin : ∀ (y : Addr) (H11 : Hp), Same H10 H11 → SqT K H11 y ((w ++ [(t : Int)]).map V.int) → ∃ acc, H11 D = some (.lst acc) ∧ acc.length < sizeLine ∧
                ∃ vD : List V, Same H7 (upd H11 D (.lst (acc ++ [.ref y]))) ∧ (upd H11 D (.lst (acc ++ [.ref y]))) D = some (.lst vD) ∧ (∀ v ∈ vD, SetV K (upd H11 D (.lst (acc ++ [.ref y]))) n v) ∧ vD.length ≤ m + 1 := by
              intro y H11 s11 hy
              have hD11 := (t9.trans (t10.trans s11)) _ _ hD
              refine ⟨vD, hD11, szl (by omega), vD ++ [.ref y], same_own (s8.trans (t9.trans (t10.trans s11))) nD, upd_same, fun u hu => ?_, by rw [List.length_append]; simp; omega⟩
              rcases List.mem_append.mp hu with h | h
              · exact ((aD u h).same (t9.trans (t10.trans s11))).upd hD11
              · rw [List.mem_singleton.mp h]
                exact SetV.upd ⟨_, ⟨y, rfl, hy⟩, as', by simp⟩ hD11
            refine ⟨tw, q1, w.map V.int, [.int (t : Int)], rfl, rfl, sameT t10 hw9, .inl (.inl z10), szL (by
              have := aw.len (by omega)
              rw [List.length_map]
              show w.length + 1 ≤ 1000000
              omega), fun h0 => ?_, (fun _ h0 => by cases h0), fun _ _ p np => ?_⟩
            · have : w = [] := by simpa using h0
              subst this
              exact fin q1 H10 (Same.refl _) (.inl (.inl z10))
            · exact fin p _ (sameU np) (.inl (.inl (by rw [upd_same, List.map_append]; rfl)))
          have dn : Dp K H9 (.ref e3) (dT []) := .tup (.inl (.inl z9)) .nil
          refine ⟨_, _, dp_dT ⟨tw, rfl, hw9⟩, dn, shp_dT _, shp_dT _, _, rfl, ?_⟩
          rw [eqv_dT]
          cases ew : decide (w = []) with
          | true =>
            refine iteT (iteT ?_)
            refine elem fun x hx => ?_
            rw [of_decide_eq_true ew] at hx
            cases hx
          | false =>
            refine iteF ?_
            have hne := of_decide_eq_false ew
            obtain ⟨w', l, rfl⟩ : ∃ w' l, w = w' ++ [l] := ⟨w.dropLast, w.getLast hne, (List.dropLast_concat_getLast hne).symm⟩
            refine ⟨_, rfl, _, rfl, 1, rfl, tw, _, _, .int l, rfl, rfl, hw9, by rw [List.map_append]; exact atI_last _ _, _, _, rfl, rfl, _, rfl, ?_⟩
            refine ite2 (fun c => ?_) (fun c => ?_)
            · exact elem (below_last aw.1 (of_decide_eq_true c))
            · exact ⟨vD, s8.trans t9, t9 _ _ hD, fun u hu => (aD u hu).same t9, by omega⟩
        · rintro H8 ⟨vD, s8, hD, aD, lD⟩
          rw [tlen] at lD
          refine ⟨Nw, D, vN, vD, rfl, rfl, s8 _ _ hN, hD, szL (by omega), fun p np => ?_⟩
          have tp : Same H8 (upd H8 p (.lst (vN ++ vD))) := sameU np
          refine ⟨p, vN ++ vD, _, rfl, s7.trans (s8.trans tp), upd_same, fun u hu => ?_, by rw [List.length_append]; omega⟩
          rcases List.mem_append.mp hu with h | h
          · exact (aN u h).same (s8.trans tp)
          · exact (aD u h).same tp
      · rintro σ H7 ⟨Nw, vN, y5, rfl, s7, hN, aN, lN⟩
        refine ⟨_, rfl, _, rfl, Fo, Nw, _, vN, rfl, rfl, s7 _ _ hF, hN, szL (by rw [List.length_cons]; omega), fun p np => ⟨_, rfl, _, _, rfl, ?_⟩⟩
        have tp : Same H7 (upd H7 p (.lst (v0 :: vF ++ vN))) := sameU np
        refine ⟨p, Nw, v0, vF ++ vN, vN, _, _, _, rfl, s5.trans (s7.trans tp), upd_same, fun u hu => ?_, ?_, tp _ _ hN, fun u hu => ((aN u hu).same tp).tup, ?_⟩
        · rcases List.mem_append.mp hu with h | h
          · exact (aF u h).same (s7.trans tp)
          · exact (aN u h).same tp
        · rw [List.length_append, Nat.pow_succ]
          omega
        · rw [Nat.pow_succ]
          omega
    · rintro σ H5 ⟨Fo, La, v0, vF, vL, y3, y4, y5, rfl, s5, hF, aF, lF, hL, aL, lL⟩
      rw [tlen, Int.toNat_natCast] at lF
      have h8 : (8 : Nat) ^ n ≤ 8 ^ 6 := Nat.pow_le_pow_right (by decide) hn
      exact ⟨_, rfl, q H5 Fo v0 vF s5 hF aF (by omega)⟩
end
end Ew
namespace Ew
open PySem PySem.Spec PyProof.Rows L2
/-- what stands of k06's own defs -/
structure Own6 (K : PySem.W.Frag) (mg : Str → Option Value) : Prop where
  gone : ∃ f fd, Fun K "_law_gone" "_law_gone" sGone f fd ∧ Binds K fd ["feed", "readers"] [] ∧ mg "_law_gone" = some (.ref f)
  prs : ∃ f fd, Fun K "_law_present" "_law_present" sPrs f fd ∧ Binds K fd ["readers", "absent"] [] ∧ mg "_law_present" = some (.ref f)
  pkPrs : ∃ f fd, Fun K "present_readers" "present_readers" sPkPrs f fd ∧ Binds K fd ["book", "absent"] [] ∧ mg "present_readers" = some (.ref f)
  pkCount : ∃ f fd, Fun K "count" "count" sPkCount f fd ∧ Binds K fd ["book", "rows", "reader", "works"] [] ∧ mg "count" = some (.ref f)
  pkShort : ∃ f fd, Fun K "is_short" "is_short" sPkShort f fd ∧ Binds K fd ["book", "rows", "absent", "works"] [] ∧ mg "is_short" = some (.ref f)
  cnt : ∃ f fd, Fun K "_law_count" "_law_count" sCnt f fd ∧ Binds K fd ["readers", "rows", "reader", "works"] [] ∧ mg "_law_count" = some (.ref f)
  lack : ∃ f fd, Fun K "_law_lack" "_law_lack" sLack f fd ∧ Binds K fd ["demands", "readers", "rows", "some", "works"] [] ∧ mg "_law_lack" = some (.ref f)
  short : ∃ f fd, Fun K "_law_is_short" "_law_is_short" sShort f fd ∧ Binds K fd ["demands", "readers", "rows", "absent", "works"] [] ∧ mg "_law_is_short" = some (.ref f)
  sets : ∃ f fd, Fun K "_law_sets" "_law_sets" sSets f fd ∧ Binds K fd ["things"] [] ∧ mg "_law_sets" = some (.ref f)
section
variable {P : Program} {w : World} {K : PySem.W.Frag} {mg : Str → Option Value} {base : Heap} {C : Addr}
theorem scLaw : FnScope ["script", "k", "feed", "demands", "readers", "book", "absent", "rows", "other", "shown", "gone", "works", "at", "reader", "told", "fewer", "less", "more", "one", "longer", "some", "away", "due"] ["script"] (defScope sLaw) := ⟨rfl, rfl, rfl, by decide +kernel, rfl, by decide +kernel, by decide +kernel⟩
theorem ok_law {f : Addr} {fd : FuncData} (F : Fun K "law" "law" sLaw f fd) (L : Low K mg) (V1 : Vals1 K mg) (T : BookTxt K mg C) (N : NoBook K C) (O : Own6 K mg) : FnOkG P w K mg base 6 f fd ["script"] (spLaw K) := by
  have L' := L
  have B := L.bi
  obtain ⟨_, ⟨fF, fdF, FF, bF, gF⟩, ⟨fTk, fdTk, FTk, bTk, gTk⟩, _, ⟨fRw, fdRw, FRw, bRw, gRw⟩, ⟨fS, fdS, FS, bS, gS⟩, _, ⟨fB, fdB, FB, bB, gB⟩⟩ := L'
  obtain ⟨fI, fdI, FI, bI, mk⟩ := T.init
  obtain ⟨fE, fdE, FE, bE, mE⟩ := T.eq
  obtain ⟨⟨fG, fdG, FG, bG, gG⟩, ⟨fP, fdP, FP, bP, gP⟩, ⟨fQ, fdQ, FQ, bQ, gQ⟩, ⟨fC, fdC, FC, bC, gC⟩, ⟨fH, fdH, FH, bH, gH⟩, ⟨fN, fdN, FN, bN, gN⟩, ⟨fL, fdL, FL, bL, gL⟩, ⟨fZ, fdZ, FZ, bZ, gZ⟩, ⟨fT, fdT, FT, bT, gT⟩⟩ := O
  have GF : FnOk P w K mg base CX0 1 fF fdF ["script", "k"] (spFeed K) := ok_feed FF B
  have GB : FnOk P w K mg base CX0 4 fB fdB ["feed", "most_works", "most_readers"] (spBook K) := ok_book FB L
  have GI : FnOk P w K mg base CX0 4 fI fdI ["self", "demands", "readers"] (spBkInit K C) := ok_bkInit FI V1 T
  have GE : FnOk P w K mg base CX0 1 fE fdE ["self", "other"] (spBkEq K C) := ok_bkEq FE B T N
  have GG : FnOk P w K mg base CX0 2 fG fdG ["feed", "readers"] (spGone K) := ok_gone FG L
  have GS : FnOk P w K mg base CX0 3 fS fdS ["feed", "readers", "absent"] (spRows K) := ok_rows FS FTk bTk gTk FRw bRw gRw B
  have GC : FnOk P w K mg base CX0 2 fC fdC ["book", "rows", "reader", "works"] (spPkCount K C) := ok_pkCount FC B T
  have GH : FnOk P w K mg base CX0 3 fH fdH ["book", "rows", "absent", "works"] (spPkShort K C) := ok_pkShort FH B T FC bC gC FQ bQ gQ
  have GN : FnOk P w K mg base CX0 1 fN fdN ["readers", "rows", "reader", "works"] (spCnt K) := ok_cnt FN B
  have GZ : FnOk P w K mg base CX0 3 fZ fdZ ["demands", "readers", "rows", "absent", "works"] (spShort K) := ok_short FZ B FN bN gN FL bL gL FP bP gP
  have GT : FnOk P w K mg base CX0 1 fT fdT ["things"] (spSets K) := ok_sets FT B
  refine okG F scLaw (fun vs H Q E h => ?_) (fun cdv A outer s H vs Q E hgd hr h => ?_)
  · obtain ⟨a, ns, rfl, _⟩ := h
    rfl
  · obtain ⟨a, ns, rfl, hS, hlen, q⟩ := h
    have hr1 : Room 1 _ := hr.mono (by decide)
    have hr2 : Room 2 _ := hr.mono (by decide)
    have hr3 : Room 3 _ := hr.mono (by decide)
    have hr4 : Room 4 _ := hr.mono (by decide)
    refine ⟨_, (pss_cons (ps_for PassesOwn.never rfl (pi_range1 rfl B.range (pa_cons (pe_callB (call_max2 rfl) (by rfl) B.max (by decide +kernel) (pa_cons pe_int (pa_cons (pe_callB (call_min2 rfl) (by rfl) B.min (by decide +kernel) (pa_cons pe_int (pa_cons (pe_callB call_len_seq (by rfl) B.len PySem.boot_len (pa_cons (pv 0) pa_nil)) pa_nil))) pa_nil))) pa_nil)) (pg_name (i := 1) scLaw.nd rfl (.inl rfl))
  (pss_cons (ps_set (i := 2) scLaw.nd rfl (.inl rfl) (pe_call GF hr1 (by rfl) gF FF.kp bF .nil pass0 (pa_cons (pv 0) (pa_cons (pv 1) pa_nil))))
 (pss_cons (ps_asg (pe_call GB hr4 (by rfl) gB FB.kp bB .nil pass0 (pa_cons (pv 2) (pa_cons pe_int (pa_cons pe_int pa_nil)))) (pg_unl (by rfl) (pgs_cons (pg_name (i := 3) scLaw.nd rfl (.inl rfl)) (pgs_cons (pg_name (i := 4) scLaw.nd rfl (.inl rfl)) pgs_nil))))
 (pss_cons (ps_par (i := 5) (j := 6) (by rfl) scLaw.nd rfl rfl (by decide) rfl rfl (pa_cons (pe_make mk GI hr (by rfl) T.mgC bI .nil pass0 (pa_cons (pv 3) (pa_cons (pv 4) pa_nil))) (pa_cons (pe_call GG hr2 (by rfl) gG FG.kp bG .nil pass0 (pa_cons (pv 2) (pa_cons (pv 4) pa_nil))) pa_nil)) (by rfl))
 (pss_cons (ps_asg (pe_tup (pa_cons (pe_call GS hr3 (by rfl) gS FS.kp bS .nil pass0 (pa_cons (pv 2) (pa_cons (pv 4) (pa_cons (pe_tup pa_nil) pa_nil)))) (pa_cons (pe_call GS hr3 (by rfl) gS FS.kp bS .nil pass0 (pa_cons (pv 2) (pa_cons (pv 4) (pa_cons (pe_tup pa_nil) pa_nil)))) pa_nil))) (pg_tup (by rfl) (pgs_cons (pg_name (i := 7) scLaw.nd rfl (.inr rfl)) (pgs_cons (pg_name (i := 8) scLaw.nd rfl (.inl rfl)) pgs_nil))))
 (pss_cons (ps_par (i := 9) (j := 10) (by rfl) scLaw.nd rfl rfl (by decide) rfl rfl (pa_cons (pe_callB (call_repr hgd hr.units) (by rfl) B.repr (by decide +kernel) (pa_cons (pe_lst (pa_cons (pv 7) (pa_cons (pv 8) pa_nil))) pa_nil)) (pa_cons (pe_call GG hr2 (by rfl) gG FG.kp bG .nil pass0 (pa_cons (pv 2) (pa_cons (pv 4) pa_nil))) pa_nil)) (by rfl))
 (pss_cons (ps_for PassesOwn.never rfl (pi_list (pe_slice sl_list (pe_call GT hr1 (by rfl) gT FT.kp bT .nil pass0 (pa_cons (pe_listRg rfl (by rfl) B.list (prg_1 (by rfl) B.range (pe_callB call_len_seq (by rfl) B.len PySem.boot_len (pa_cons (pv 3) pa_nil)))) pa_nil)) (po_some pe_int) po_none)) (pg_name (i := 11) scLaw.nd rfl (.inr rfl))
    (pss_cons (ps_for PassesOwn.never rfl (pi_enum (by rfl) B.enumerate (pa_cons (pv 4) pa_nil)) (pg_tup (by rfl) (pgs_cons (pg_name (i := 12) scLaw.nd rfl (.inr rfl)) (pgs_cons (pg_name (i := 13) scLaw.nd rfl (.inl rfl)) pgs_nil))) (pss_cons (ps_set (i := 14) scLaw.nd rfl (.inl rfl) (pe_call GC hr2 (by rfl) gC FC.kp bC .nil pass0 (pa_cons (pv 5) (pa_cons (pv 7) (pa_cons (pv 12) (pa_cons (pv 11) pa_nil))))))
 (pss_cons (ps_if (pt_cmpR op_ne (pe_callB (call_repr hgd hr.units) (by rfl) B.repr (by decide +kernel) (pa_cons (pv 14) pa_nil)) (pe_callB (call_repr hgd hr.units) (by rfl) B.repr (by decide +kernel) (pa_cons (pe_call GN hr1 (by rfl) gN FN.kp bN .nil pass0 (pa_cons (pv 4) (pa_cons (pv 7) (pa_cons (pv 12) (pa_cons (pv 11) pa_nil))))) pa_nil)) (nomark _)) (pss_one (ps_ret pe_bl)) pss_nil)
 (C8.pss_cut (ps_set (i := 15) scLaw.nd rfl (.inl rfl) (pe_ifExp (pt_cmpR op_gt (pe_callB call_len_seq (by rfl) B.len PySem.boot_len (pa_cons (pv 11) pa_nil)) pe_int (nomark _)) (pe_slice sl_tup1 (pv 11) (po_some pe_int) po_none) (pv 11)))
 (pss_cons (ps_set (i := 16) scLaw.nd rfl (.inl rfl) (pe_call GC hr2 (by rfl) gC FC.kp bC .nil pass0 (pa_cons (pv 5) (pa_cons (pv 7) (pa_cons (pv 12) (pa_cons (pv 15) pa_nil))))))
 (pss_cons (ps_if (pt_cmpR op_notIn_seq (pe_op op_sub (pv 14) (pv 16)) (pe_tup (pa_cons pe_int (pa_cons pe_int pa_nil))) (by rfl)) (pss_one (ps_ret pe_bl)) pss_nil)
 (pss_cons (ps_setLc (i := 17) (own := [("one", 18)]) (g := gName 18) (tt := tAnd (tTest (tOp (rIn K true) (tVar 18) (tOp (rIxL K) (tVar 7) (tVar 12)))) (tTest (tOp (rIn K true) (tVar 18) (tVar 11)))) (te := tVar 18) (by rfl) scLaw.nd rfl rfl (sw_true rfl rfl rfl (by decide +kernel)) (pi_tup (pe_ix ix_tup (pv 13) pe_int (fun _ _ => rfl)))
    (blkOk_by (own := [("one", 18)]) (N := ["script", "k", "feed", "demands", "readers", "book", "absent", "rows", "other", "shown", "gone", "works", "at", "reader", "told", "fewer", "less", "more", "one", "longer", "some", "away", "due"]) (sc := defScope sLaw) (by decide +kernel))
    (fun _ _ _ _ _ => (pg_name (i := 18) scLaw.nd rfl (.inl rfl))) (fun _ _ _ _ _ => pts_one (PW.pt (pw_and (pt_cmpR op_notIn_seq (pv 18) (pe_ix ix_list (pv 7) (pv 12) (fun _ _ => rfl)) (by rfl)) (pw_and1 (pt_cmpR op_notIn_seq (pv 18) (pv 11) (by rfl)))))) (fun _ _ _ _ _ => pv 18))
 (pss_one (ps_if (PW.pt (pw_and (pt_cmpR (op_neD hr.units) (pv 17) (pe_lst pa_nil) (nomark _)) (pw_and1 (pt_cmpR op_lt (pe_callB call_len_seq (by rfl) B.len PySem.boot_len (pa_cons (pe_ix ix_list (pv 7) (pv 12) (fun _ _ => rfl)) pa_nil)) (pe_ix ix_tup (pv 13) pe_int (fun _ _ => rfl)) (nomark _))))) (pss_cons (ps_set (i := 19) scLaw.nd rfl (.inl rfl) (pe_callTy call_list_of (by rfl) B.list (by decide +kernel) (pa_cons (pv 7) pa_nil)))
 (pss_cons (ps_asg (pe_callTy call_tuple_of (by rfl) B.tuple (by decide +kernel) (pa_cons (pe_callB cr_sortedTu (by rfl) B.sorted (by decide +kernel) (pa_cons (pe_op op_cat1 (pe_ix ix_list (pv 7) (pv 12) (fun _ _ => rfl)) (pe_tup (pa_cons (pe_ix ix_list (pv 17) pe_int (fun _ _ => rfl)) pa_nil))) pa_nil)) pa_nil)) (pg_sub (pv 19) (pv 12) set_list))
 (pss_cons (ps_set (i := 16) scLaw.nd rfl (.inl rfl) (pe_call GC hr2 (by rfl) gC FC.kp bC .nil pass0 (pa_cons (pv 5) (pa_cons (pv 19) (pa_cons (pv 12) (pa_cons (pv 11) pa_nil))))))
 (pss_one (ps_if (pt_cmpR op_notIn_seq (pe_op op_sub (pv 14) (pv 16)) (pe_tup (pa_cons pe_int (pa_cons pe_int pa_nil))) (by rfl)) (pss_one (ps_ret pe_bl)) pss_nil))))) pss_nil)))))))))
 (pss_one (ps_for PassesOwn.never rfl (pi_tup (pe_tup (pa_cons (pe_tup (pa_cons (pv 7) (pa_cons (pv 6) pa_nil))) (pa_cons (pe_tup (pa_cons (pv 7) (pa_cons (pv 10) pa_nil))) (pa_cons (pe_tup (pa_cons (pv 8) (pa_cons (pv 6) pa_nil))) pa_nil))))) (pg_tup (by rfl) (pgs_cons (pg_name (i := 20) scLaw.nd rfl (.inl rfl)) (pgs_cons (pg_name (i := 21) scLaw.nd rfl (.inl rfl)) pgs_nil)))
    (pss_cons (ps_set (i := 22) scLaw.nd rfl (.inl rfl) (pe_call GZ hr3 (by rfl) gZ FZ.kp bZ .nil pass0 (pa_cons (pv 3) (pa_cons (pv 4) (pa_cons (pv 20) (pa_cons (pv 21) (pa_cons (pv 11) pa_nil)))))))
 (pss_one (ps_if (pt_cmpR op_ne (pe_callB (call_repr hgd hr.units) (by rfl) B.repr (by decide +kernel) (pa_cons (pe_call GH hr3 (by rfl) gH FH.kp bH .nil pass0 (pa_cons (pv 5) (pa_cons (pv 20) (pa_cons (pv 21) (pa_cons (pv 11) pa_nil))))) pa_nil)) (pe_callB (call_repr hgd hr.units) (by rfl) B.repr (by decide +kernel) (pa_cons (pv 22) pa_nil)) (nomark _)) (pss_one (ps_ret pe_bl)) pss_nil)))))))
 (pss_one (ps_if (PW.pt (pw_or (pt_cmpR op_ne (pe_callB (call_repr hgd hr.units) (by rfl) B.repr (by decide +kernel) (pa_cons (pe_lst (pa_cons (pv 7) (pa_cons (pv 8) pa_nil))) pa_nil)) (pv 9) (nomark _)) (pw_or1 (pt_not (pt_cmpR (op_eqOwn GE hr1 mE.at_ mE.fn bE) (pv 5) (pe_make mk GI hr (by rfl) T.mgC bI .nil pass0 (pa_cons (pv 3) (pa_cons (pv 4) pa_nil))) (nomark _)))))) (pss_one (ps_ret pe_bl)) pss_nil)))))))))
 (pss_one (ps_ret pe_bl))), ?_⟩
    have two : 2 ≤ sizeLine := by decide
    have one_ : 1 ≤ sizeLine := by decide
    have three : 3 ≤ sizeLine := by decide
    refine ⟨_, rfl, a, _, rfl, .inl hS, _, _, rfl, _, _, rfl, _, rfl, (by split <;> (try split) <;> omega), (by split <;> (try split) <;> omega), ?_⟩
    refine for_range (lo := 0) (fun i σ H' => ∃ y1 y2 y3 y4 y5 y6 y7 y8 y9 y10 y11 y12 y13 y14 y15 y16 y17 y18 y19 y20 y21 y22 : Option V, σ = [some (.ref a), y1, y2, y3, y4, y5, y6, y7, y8, y9, y10, y11, y12, y13, y14, y15, y16, y17, y18, y19, y20, y21, y22] ∧ Same H H') ⟨none, none, none, none, none, none, none, none, none, none, none, none, none, none, none, none, none, none, none, none, none, none, rfl, Same.refl H⟩ ?_ ?_
    · rintro i σ H1 hi ⟨y1, y2, y3, y4, y5, y6, y7, y8, y9, y10, y11, y12, y13, y14, y15, y16, y17, y18, y19, y20, y21, y22, rfl, s1⟩
      have hi3 : i < 3 := by
        refine Nat.lt_of_lt_of_le hi ?_
        split <;> (try split) <;> omega
      refine ⟨_, rfl, _, rfl, a, ns, 0 + (i : Int), rfl, s1.seq hS, hlen, by omega, by omega, fun H2 f s2 nf hf => ?_⟩
      have nf0 : H f = none := s1.free nf
      refine ⟨_, rfl, f, 6, 6, rfl, hf, by decide, by decide, by decide, by decide, fun H3 p A R ds us rs e3 np nA nR hp bk npA npR _ _ => ?_⟩
      have ok := bk.dsOk
      have fA : A ≠ f := hf.ne nA
      have fR : R ≠ f := hf.ne nR
      have s3 : Same H H3 := sameX (s1.trans s2) nf0 e3
      have hf3 := e3.feed
      refine ⟨p, _, rfl, .inl (.inl hp), rfl, _, _, rfl, _, _, rfl, rfl, ?_⟩
      have hul : us.length = rs.length := Paired.len bk.rds
      have r6 := ok.r6
      have n6 := ok.n6
      -- book, absent
      refine ⟨_, rfl, _, rfl, fun x dx nx ndx nex => init_of (K := K) (rs := rs) hf3 nx ndx nex (.inl (.inl bk.dem)) (.inl (.inl bk.rd)) bk.rds ok fun H4 s4 b4 => ⟨rfl, ?_⟩⟩
      have hf4 : FeedAt H4 f := let ⟨d, t, e⟩ := hf3; ⟨d, t, s4 _ _ e⟩
      refine ⟨_, rfl, _, rfl, f, R, us, rfl, hf4, fR, .inl (.inl (s4 _ _ bk.rd)), by omega, fun H5 ab as1 e5 n5 h5 asc5 => ⟨_, _, rfl, ?_⟩⟩
      have e35 : Ext1 f H3 H5 := (Ext1.same hf3 s4).trans e5
      have b5 := b4.ext hf4 e5
      have hf5 := e5.feed
      -- rows, other
      refine ⟨_, rfl, _, rfl, Nat.zero_le _, fun q1 g1 => ?_⟩
      have t1 : Ext1 f H5 (upd H5 q1 (.tup [])) := (Ext1.refl hf5).new g1
      refine ⟨f, R, q1, rs, [], rfl, t1.feed, fR, ⟨us, .inl (.inl ((e35.trans t1).1 _ _ fR bk.rd)), L2.Paired.mapP bk.rds fun _ _ z => z.ext (e35.trans t1) hf3⟩, rdsOk_of ok.ok (by omega) (by omega), by omega, .inl (.inl upd_same), fun H7 W1 vw1 ws1 e7 nW1 hW1 pw1 ro1 _ => ?_⟩
      have e57 : Ext1 f H5 H7 := t1.trans e7
      have fW1 : W1 ≠ f := t1.feed.ne nW1
      refine ⟨_, rfl, _, rfl, Nat.zero_le _, fun q2 g2 => ?_⟩
      have t2 : Ext1 f H7 (upd H7 q2 (.tup [])) := (Ext1.refl e7.feed).new g2
      have e37 : Ext1 f H3 (upd H7 q2 (.tup [])) := e35.trans (e57.trans t2)
      refine ⟨f, R, q2, rs, [], rfl, t2.feed, fR, ⟨us, .inl (.inl (e37.1 _ _ fR bk.rd)), L2.Paired.mapP bk.rds fun _ _ z => z.ext e37 hf3⟩, rdsOk_of ok.ok (by omega) (by omega), by omega, .inl (.inl upd_same), fun H9 W2 vw2 ws2 e9 nW2 hW2 pw2 ro2 _ => ?_⟩
      have e79 : Ext1 f H7 H9 := t2.trans e9
      have fW2 : W2 ≠ f := t2.feed.ne nW2
      refine ⟨two, fun tt ntt => ⟨tt, _, rfl, .inl (.inl upd_same), rfl, _, _, rfl, _, _, rfl, rfl, ?_⟩⟩
      have t3 : Ext1 f H9 (upd H9 tt (.tup [.ref W1, .ref W2])) := (Ext1.refl e9.feed).new ntt
      have e10 : Ext1 f H7 (upd H9 tt (.tup [.ref W1, .ref W2])) := e79.trans t3
      have e510 : Ext1 f H5 (upd H9 tt (.tup [.ref W1, .ref W2])) := e57.trans e10
      have w1 := e10.1 _ _ fW1 hW1
      have w2 := t3.1 _ _ fW2 hW2
      have pw1' := L2.Paired.mapP pw1 fun _ _ z => RowT.ext e10 e7.feed z
      have pw2' := L2.Paired.mapP pw2 fun _ _ z => RowT.ext t3 e9.feed z
      generalize upd H9 tt (.tup [.ref W1, .ref W2]) = H10 at *
      -- shown, gone
      have hw1l : ws1.length = rs.length := (Paired.len ro1).symm
      have hw2l : ws2.length = rs.length := (Paired.len ro2).symm
      have dig : ∀ ws : List (List Int), Paired RowOk rs ws → ∀ w ∈ ws, w.length ≤ 6 ∧ ∀ z ∈ w, Dig z := fun ws ro w hw => by
        obtain ⟨j, hj, e⟩ := List.mem_iff_getElem.mp hw
        obtain ⟨r, hr2, o⟩ := Paired.at2 ro (show ws[j]? = some w by rw [List.getElem?_eq_getElem hj, e])
        have hok := ok.ok r (List.mem_of_getElem? hr2)
        have := o.2.2
        have := hok.2.1
        exact ⟨by omega, fun z hz => by have := hok.2.2.2 z (o.2.1 z hz); unfold Dig; omega⟩
      have shw := show_dPr (show_dWs (dig ws1 ro1)) (show_dWs (dig ws2 ro2))
      have shl : (PyData.shown (dPr (dWs ws1) (dWs ws2))).length ≤ sizeLine := by
        refine Nat.le_trans shw.2 (szL ?_)
        rw [hw1l, hw2l]
        have : rs.length * (5 + 6 * 3) ≤ 6 * (5 + 6 * 3) := Nat.mul_le_mul_right _ r6
        omega
      have shd := dep_dPr (dep_dWs ws1) (dep_dWs ws2)
      refine ⟨_, rfl, _, rfl, two, fun l nl => ⟨_, dPr (dWs ws1) (dWs ws2), rfl, ?_, shw.1, by omega, shl, ?_⟩⟩
      · have sl : Same H10 (upd H10 l (.lst [.ref W1, .ref W2])) := sameU nl
        exact .lst (.inl (.inl upd_same)) (.cons (dp_dWs (.inl (.inl (sl _ _ w1))) (L2.Paired.mapP pw1' fun _ _ z => z.same sl)) (.cons (dp_dWs (.inl (.inl (sl _ _ w2))) (L2.Paired.mapP pw2' fun _ _ z => z.same sl)) .nil))
      have t4 : Ext1 f H10 (upd H10 l (.lst [.ref W1, .ref W2])) := (Ext1.refl e510.feed).new nl
      have e311 := e35.trans (e510.trans t4)
      refine ⟨_, rfl, _, rfl, f, R, us, rfl, t4.feed, fR, .inl (.inl (e311.1 _ _ fR bk.rd)), by omega, fun H12 gn as2 e12 n12 h12 asc12 => ⟨_, _, rfl, ?_⟩⟩
      have e1012 := t4.trans e12
      have e512 := e510.trans e1012
      have e312 := e35.trans e512
      have hA := e312.1 _ _ fA bk.dem
      have hR := e312.1 _ _ fR bk.rd
      have hP : Paired (RdT K H12) us rs := L2.Paired.mapP bk.rds fun _ _ z => z.ext e312 hf3
      have hB := b5.ext hf5 e512
      have hab : SqT K H12 ab (as1.map V.int) := e512.sqT hf5 (.inl (.inl h5))
      have hgn : SqT K H12 gn (as2.map V.int) := .inl (.inl h12)
      have hw1 := e1012.1 _ _ fW1 w1
      have hw2 := e1012.1 _ _ fW2 w2
      have hp1 : Paired (RowT K H12) vw1 ws1 := L2.Paired.mapP pw1' fun _ _ z => RowT.ext e1012 e510.feed z
      have hp2 : Paired (RowT K H12) vw2 ws2 := L2.Paired.mapP pw2' fun _ _ z => RowT.ext e1012 e510.feed z
      have s12 : Same H H12 := sameX s3 nf0 e312
      have hf12 := e12.feed
      clear e312 e512 e1012 e311 t4 pw1' pw2' w1 w2 e510 e10 t3 e79 e37 t2 e57 t1 e35 b5 b4 hf4 hf5
      have shl' := shl
      obtain ⟨sh, hsh⟩ : ∃ sh, PyData.shown (dPr (dWs ws1) (dWs ws2)) = sh := ⟨_, rfl⟩
      rw [hsh]
      obtain ⟨dxb, Ab, Rb, hxb, _⟩ := id hB
      -- for works in ..
      refine ⟨_, rfl, A, _, rfl, .inl (.inl (.inl hA)), _, rfl, ⟨by decide, by decide, by omega, by rw [List.length_map]; omega, by rw [List.length_map]; omega⟩, fun Tl nT => ?_⟩
      have sT : Same H12 (upd H12 Tl (.lst (rgV 0 (((ds.map V.int).length : Nat) : Int)))) := sameU nT
      have hrg : rgV 0 (((ds.map V.int).length : Nat) : Int) = ((List.range ds.length).map fun i => ((i : Nat) : Int)).map V.int := by
        unfold rgV
        rw [List.length_map, List.map_map, Int.sub_zero, Int.toNat_natCast]
        exact List.map_congr_left fun j _ => by rw [Int.zero_add]; rfl
      refine ⟨Tl, ds.length, rfl, .inl (.inl (by rw [hrg]; exact upd_same)), n6, fun H13 ps v0 vs' s13 hps hvs lvs => ⟨1, rfl, ps, _, rfl, .inl (.inl hps), fun Z nZ => ?_⟩⟩
      rw [show cutV (v0 :: vs') (some 1) none = vs' from cut_from (v0 :: vs') 1]
      have sZ : Same H12 (upd H13 Z (.lst vs')) := sT.trans (s13.trans (sameU nZ))
      have hZ : upd H13 Z (.lst vs') Z = some (.lst vs') := upd_same
      have hset : ∀ v ∈ vs', SetV K (upd H13 Z (.lst vs')) ds.length v := fun v hv => (hvs v hv).same (sameU nZ)
      generalize upd H13 Z (.lst vs') = HZ at *
      refine ⟨Z, rfl, ⟨_, .inl (.inl hZ)⟩, ?_⟩
      refine for_list (K := K) (a := Z) (xs := vs') (fun j σ H' => ∃ y11 y12 y13 y14 y15 y16 y17 y18 y19 y20 y21 y22 : Option V, σ = [some (.ref a), some (.int (0 + (i : Int))), some (.ref f), some (.ref A), some (.ref R), some (.ref x), some (.ref ab), some (.ref W1), some (.ref W2), some (.str sh), some (.ref gn), y11, y12, y13, y14, y15, y16, y17, y18, y19, y20, y21, y22] ∧ Same HZ H') ⟨y11, y12, y13, y14, y15, y16, y17, y18, y19, y20, y21, y22, rfl, Same.refl HZ⟩ (fun j σ H' _ ⟨_, _, _, _, _, _, _, _, _, _, _, _, _, e⟩ => .inl (.inl (e _ _ hZ))) ?_ ?_
      · rintro j v σ Ha hv ⟨y11, y12, y13, y14, y15, y16, y17, y18, y19, y20, y21, y22, rfl, sa⟩
        obtain ⟨works, ⟨k, rfl, hk⟩, asc, wne⟩ := hset v (List.mem_of_getElem? hv)
        have wl6 : works.length ≤ 6 := by
          have := asc.len (by omega)
          omega
        have ndw := nodup_asc asc.1
        refine ⟨_, rfl, R, us, rfl, .inl (.inl (sa _ _ (sZ _ _ hR))), ?_⟩
        refine for_it (walk_enum (xs := us)) (fun j σ H' => ∃ y12 y13 y14 y15 y16 y17 y18 y19 y20 y21 y22 : Option V, σ = [some (.ref a), some (.int (0 + (i : Int))), some (.ref f), some (.ref A), some (.ref R), some (.ref x), some (.ref ab), some (.ref W1), some (.ref W2), some (.str sh), some (.ref gn), some (.ref k), y12, y13, y14, y15, y16, y17, y18, y19, y20, y21, y22] ∧ Same HZ H') ⟨y12, y13, y14, y15, y16, y17, y18, y19, y20, y21, y22, rfl, sa⟩ (fun j σ H' _ ⟨_, _, _, _, _, _, _, _, _, _, _, _, e⟩ => .inl (.inl (e _ _ (sZ _ _ hR)))) ?_ ?_
        · rintro m v σ Hb Hc hm ⟨y12, y13, y14, y15, y16, y17, y18, y19, y20, y21, y22, rfl, sb⟩ ⟨t, x1, x2, rfl, nt, rfl, g1, g2⟩
          have sbt : Same Hb (upd Hb t (.tup [x1, x2])) := sameU nt
          have sc : Same HZ (upd Hb t (.tup [x1, x2])) := sb.trans sbt
          obtain rfl : V.int (m : Nat) = x1 := Option.some.inj g1
          obtain ⟨r, hr2, t', m', rfl, hT', hM'⟩ := Paired.at1 (L2.Paired.mapP hP fun _ _ z => z.same (sZ.trans sb)) g2
          refine ⟨t, _, rfl, .inl (.inl upd_same), rfl, _, _, rfl, _, _, rfl, rfl, ?_⟩
          have hT1 := sameT sbt hT'
          have hM1 := sameT sbt hM'
          generalize upd Hb t (.tup [V.int (m : Nat), .ref t']) = Hd at *
          have hml : m < rs.length := by rw [← hul]; exact hm
          have hok := ok.ok r (List.mem_of_getElem? hr2)
          have h2l : m < ws1.length := by omega
          obtain ⟨r', hr', ow⟩ := Paired.at2 ro1 (show ws1[m]? = some ws1[m] by simp [h2l])
          rw [hr2] at hr'
          cases hr'
          have hw6 := (dig ws1 ro1 ws1[m] (List.getElem_mem _)).1
          have hr60 : r.2.length ≤ 60 := by
            have := hok.2.2.len (by omega)
            omega
          obtain ⟨w, hwd⟩ : ∃ w, ws1[m] = w := ⟨_, rfl⟩
          rw [hwd] at ow hw6
          have hwm : ws1[m]? = some w := by simp [h2l, hwd]
          have at_ : At rs ws1 (m : Int) r w := ⟨by omega, by simpa using hr2, by simpa using hwm, hr60, by omega⟩
          have hv1 : vw1.length = ws1.length := Paired.len hp1
          obtain ⟨vr, hvr, tw, rfl, hRw⟩ := Paired.at2 (L2.Paired.mapP hp1 fun _ _ z => z.same (sZ.trans sc)) hwm
          -- told
          refine ⟨_, rfl, _, rfl, _, rfl, _, rfl, f, x, W1, k, (m : Int), ds, us, rs, vw1, ws1, r, w, works, rfl, hB.same (sZ.trans sc), .inl (.inl ((sZ.trans sc) _ _ hw1)), L2.Paired.mapP hp1 fun _ _ z => z.same (sZ.trans sc), sameT sc hk, by omega, at_, fun He se => ?_⟩
          have sce := sc.trans se
          have cd := cnt2_dig (works := works) ow hok.2.1
          have shc := show_int cd
          -- repr(told) != repr(..)
          refine ⟨_, rfl, _, .int (cnt2 r w works), rfl, .int _, shc.1, Nat.zero_le _, Nat.le_trans shc.2 one_, ?_⟩
          refine ⟨_, rfl, _, rfl, _, rfl, _, rfl, R, W1, k, (m : Int), us, rs, vw1, ws1, r, w, works, rfl, .inl (.inl ((sZ.trans sce) _ _ hR)), L2.Paired.mapP hP fun _ _ z => z.same (sZ.trans sce), .inl (.inl ((sZ.trans sce) _ _ hw1)), L2.Paired.mapP hp1 fun _ _ z => z.same (sZ.trans sce), sameT sce hk, by omega, at_, fun Hf sf => ?_⟩
          rw [cnt_eq ow hok.2.2.1 asc.1]
          refine ⟨_, .int (cnt2 r w works), rfl, .int _, shc.1, Nat.zero_le _, Nat.le_trans shc.2 one_, rfl, _, rfl, ?_⟩
          show (if (!decide (V.str (PyData.shown (.int (cnt2 r w works))) = V.str (PyData.shown (.int (cnt2 r w works))))) = true then _ else _)
          refine iteNS rfl ?_
          have scf := sce.trans sf
          have sdf := se.trans sf
          -- fewer
          refine ⟨fun σ H' => ∃ (qf : Addr) (fw : List Int), σ = [some (.ref a), some (.int (0 + (i : Int))), some (.ref f), some (.ref A), some (.ref R), some (.ref x), some (.ref ab), some (.ref W1), some (.ref W2), some (.str sh), some (.ref gn), some (.ref k), some (.int (m : Nat)), some (.ref t'), some (.int (cnt2 r w works)), some (.ref qf), y16, y17, y18, y19, y20, y21, y22] ∧ Same Hf H' ∧ SqT K H' qf (fw.map V.int) ∧ fw.length ≤ 60 ∧ (cnt2 r w works - cnt2 r w fw = 0 ∨ cnt2 r w works - cnt2 r w fw = 1), ?_, ?_⟩
          · refine ⟨_, rfl, k, _, rfl, .inr (sameT scf hk), _, _, rfl, rfl, _, rfl, ite2 (fun c => ?_) (fun c => ?_)⟩
            · refine ⟨_, rfl, 1, rfl, k, _, rfl, sameT scf hk, fun qf Hg sg hq => ⟨qf, works.drop 1, rfl, sg, ?_, by simp; omega, ?_⟩⟩
              · rw [List.map_drop, ← cut_from (works.map V.int) 1]
                exact hq
              · cases works with
                | nil => exact absurd rfl wne
                | cons z rest =>
                  have nz := List.nodup_cons.mp ndw
                  rcases cnt_fewer (r := r) (row := w) (x := z) (works := rest) with h | h | h
                  · exact .inl h
                  · exact .inr h
                  · exact absurd ⟨nodup_asc ow.1, nz.1⟩ h
            · exact ⟨_, rfl, k, works, rfl, Same.refl _, sameT scf hk, by omega, .inl (by omega)⟩
          rintro σ Hg ⟨qf, fw, rfl, sg, hqf, fwl, hd1⟩
          have scg := scf.trans sg
          -- less
          refine ⟨_, rfl, _, rfl, _, rfl, _, rfl, f, x, W1, qf, (m : Int), ds, us, rs, vw1, ws1, r, w, fw, rfl, hB.same (sZ.trans scg), .inl (.inl ((sZ.trans scg) _ _ hw1)), L2.Paired.mapP hp1 fun _ _ z => z.same (sZ.trans scg), hqf, fwl, at_, fun Hh sh' => ?_⟩
          have sch := scg.trans sh'
          refine ⟨_, rfl, _, rfl, _, _, rfl, rfl, two, fun t2 nt2 => ⟨t2, [.int 0, .int 1], rfl, .inr (.inl (.inl upd_same)), rfl, rfl, _, rfl, ?_⟩⟩
          have st2 : Same Hh (upd Hh t2 (.tup [.int 0, .int 1])) := sameU nt2
          rw [if_pos rfl, show inV (V.int (cnt2 r w works - cnt2 r w fw)) [V.int 0, .int 1] = true from by rw [show [V.int 0, V.int 1] = [(0 : Int), 1].map V.int from rfl, inV_int]; exact decide_eq_true (by simpa using hd1)]
          refine iteF ?_
          have sci := sch.trans st2
          have sdi := sdf.trans (sg.trans (sh'.trans st2))
          generalize upd Hh t2 (.tup [.int 0, .int 1]) = Hi at *
          -- more
          have hMi := sameT sdi hM1
          refine ⟨_, rfl, t', _, 1, .ref m', rfl, rfl, sameT sdi hT1, rfl, m', rfl, ⟨_, hMi⟩, fun D nD => ?_⟩
          refine lc_tup (K := K) (a := m') (xs := r.2.map V.int) (fun n H' => Same Hi H' ∧ H' D = some (.lst (((r.2.take n).filter fun y => !decide (y ∈ w) && !decide (y ∈ works)).map V.int))) ⟨sameU nD, upd_same⟩ (fun n H' _ ⟨e, _⟩ => sameT e hMi) ?_ ?_
          · rintro n y H3 hy ⟨s3', hD3⟩
            obtain ⟨z, hz, rfl⟩ := at_map hy
            have st := filter_take_snoc (fun y => !decide (y ∈ w) && !decide (y ∈ works)) hz
            have hl := filter_len_le (fun y => !decide (y ∈ w) && !decide (y ∈ works)) r.2 n
            have sj := sci.trans s3'
            refine ⟨rfl, _, rfl, _, rfl, _, rfl, W1, vw1, _, _, rfl, rfl, .inl (.inl ((sZ.trans sj) _ _ hw1)), atI_nat hvr, tw, _, rfl, .inr (sameT (sdi.trans s3') hRw), rfl, flat_ints w, _, rfl, ?_⟩
            rw [if_pos rfl, inV_int]
            refine ite2 (fun c => ?_) (fun c => ?_)
            · refine ⟨_, rfl, _, rfl, k, _, rfl, .inr (sameT sj hk), rfl, flat_ints works, _, rfl, ?_⟩
              rw [if_pos rfl, inV_int]
              refine ite2 (fun c2 => ?_) (fun c2 => ?_)
              · refine ⟨_, rfl, _, hD3, szl (by rw [List.length_map]; omega), same_own s3' nD, ?_⟩
                rw [upd_same, st, if_pos (by rw [c, c2]; rfl), List.map_append]
                rfl
              · refine ⟨s3', ?_⟩
                rw [st, if_neg (by rw [c]; simpa using c2), List.append_nil]
                exact hD3
            · refine iteF ⟨s3', ?_⟩
              rw [st, if_neg (by rw [Bool.eq_false_iff.mpr c]; simp), List.append_nil]
              exact hD3
          rintro Hj ⟨sj', hDj⟩
          rw [List.length_map, List.take_length] at hDj
          have scj := sci.trans sj'
          have sdj := sdi.trans sj'
          -- if more != [] and ..
          refine ⟨_, rfl, Nat.zero_le _, fun e0 ne0 => ?_⟩
          have se0 : Same Hj (upd Hj e0 (.lst [])) := sameU ne0
          refine ⟨dI (r.2.filter fun y => !decide (y ∈ w) && !decide (y ∈ works)), dI [], dp_dI (.inl (.inl (se0 _ _ hDj))), .lst (.inl (.inl upd_same)) .nil, shp_dI _, shp_dI _, _, rfl, ?_⟩
          rw [eqv_dI]
          have sck := scj.trans se0
          have sdk := sdj.trans se0
          have hDk := se0 _ _ hDj
          generalize upd Hj e0 (.lst []) = Hk at *
          have done : ∀ (Hx : Hp) (z16 z17 z18 z19 : Option V), Same HZ Hx → ∃ u12 u13 u14 u15 u16 u17 u18 u19 u20 u21 u22 : Option V, ([some (.ref a), some (.int (0 + (i : Int))), some (.ref f), some (.ref A), some (.ref R), some (.ref x), some (.ref ab), some (.ref W1), some (.ref W2), some (.str sh), some (.ref gn), some (.ref k), some (.int (m : Nat)), some (.ref t'), some (.int (cnt2 r w works)), some (.ref qf), z16, z17, z18, z19, y20, y21, y22] : L2.St) = [some (.ref a), some (.int (0 + (i : Int))), some (.ref f), some (.ref A), some (.ref R), some (.ref x), some (.ref ab), some (.ref W1), some (.ref W2), some (.str sh), some (.ref gn), some (.ref k), u12, u13, u14, u15, u16, u17, u18, u19, u20, u21, u22] ∧ Same HZ Hx := fun Hx z16 z17 z18 z19 sx => ⟨_, _, _, _, _, _, _, _, _, _, _, rfl, sx⟩
          have hmm : ∀ z ∈ (r.2.filter fun y => !decide (y ∈ w) && !decide (y ∈ works)), z ∉ w ∧ z ∉ works ∧ 0 ≤ z ∧ z < 6 := fun z hz => by
            have h1 := List.mem_filter.mp hz
            have h2 := hok.2.2.2 z h1.1
            have h3 := h1.2
            simp only [Bool.and_eq_true, Bool.not_eq_true', decide_eq_false_iff_not] at h3
            exact ⟨h3.1, h3.2, h2.1, by omega⟩
          generalize (r.2.filter fun y => !decide (y ∈ w) && !decide (y ∈ works)) = more at *
          cases em : decide (more = []) with
          | true => exact iteF (iteF (done _ _ _ _ _ sck))
          | false =>
            refine iteT ?_
            cases more with
            | nil => cases em
            | cons z0 rest =>
              have hz0 := hmm z0 (by simp)
              have hRk := sameT sdk hRw
              refine ⟨_, rfl, _, rfl, W1, vw1, _, _, rfl, rfl, .inl (.inl ((sZ.trans sck) _ _ hw1)), atI_nat hvr, tw, _, rfl, .inr hRk, ?_⟩
              refine ⟨_, rfl, t', _, 0, .int r.1, rfl, rfl, sameT sdk hT1, rfl, _, _, rfl, rfl, _, rfl, ite2 (fun _ => ?_) (fun _ => done _ _ _ _ _ sck)⟩
              -- longer
              refine ⟨_, rfl, W1, vw1, rfl, .inl (.inl (.inl ((sZ.trans sck) _ _ hw1))), fun Lg nLg => ?_⟩
              have sLg : Same Hk (upd Hk Lg (.lst vw1)) := sameU nLg
              have zLg : upd Hk Lg (.lst vw1) Lg = some (.lst vw1) := upd_same
              have nLZ := sck.free nLg
              generalize upd Hk Lg (.lst vw1) = Hl at *
              have scl := sck.trans sLg
              have sdl := sdk.trans sLg
              refine ⟨_, rfl, _, rfl, W1, vw1, _, _, rfl, rfl, .inl (.inl ((sZ.trans scl) _ _ hw1)), atI_nat hvr, ?_⟩
              refine ⟨_, rfl, D, _, 0, .int z0, rfl, rfl, .inl (.inl (sLg _ _ hDk)), atI_nat (j := 0) rfl, one_, fun q1 nq1 => ?_⟩
              have sq1 : Same Hl (upd Hl q1 (.tup [.int z0])) := sameU nq1
              have zq1 : upd Hl q1 (.tup [V.int z0]) q1 = some (.tup [.int z0]) := upd_same
              generalize upd Hl q1 (.tup [.int z0]) = Hm at *
              have scm := scl.trans sq1
              have hRm := sameT (sdl.trans sq1) hRw
              have zLm := sq1 _ _ zLg
              refine ⟨tw, q1, w.map V.int, [.int z0], rfl, rfl, hRm, .inl (.inl zq1), szL (by rw [List.length_map]; show w.length + 1 ≤ 1000000; omega), fun y Hn sn hy => ?_⟩
              have hy' : SqT K Hn y ((w ++ [z0]).map V.int) := by rw [List.map_append]; exact hy
              refine ⟨y, w ++ [z0], rfl, hy', by rw [List.length_append]; show w.length + 1 < 64; omega, fun ns' p2 pm so np2 => ?_⟩
              have sp2 : Same Hn (upd Hn p2 (.lst (ns'.map V.int))) := sameU np2
              refine ⟨p2, _, rfl, .inl ⟨.inl (.inl upd_same), fun tp ntp => ?_⟩⟩
              have stp : Same (upd Hn p2 (.lst (ns'.map V.int))) (upd (upd Hn p2 (.lst (ns'.map V.int))) tp (.tup (ns'.map V.int))) := sameU ntp
              have ztp : upd (upd Hn p2 (.lst (ns'.map V.int))) tp (.tup (ns'.map V.int)) tp = some (.tup (ns'.map V.int)) := upd_same
              have sno := sn.trans (sp2.trans stp)
              have zLo := sno _ _ zLm
              generalize upd (upd Hn p2 (.lst (ns'.map V.int))) tp (.tup (ns'.map V.int)) = Ho at *
              have sco := scm.trans sno
              refine ⟨_, rfl, _, rfl, Lg, vw1, (m : Int), m, rfl, rfl, zLo, ?_, ?_⟩
              · unfold ixN
                rw [if_pos (by omega), if_pos (by omega)]
                simp
              have scp : Same HZ (upd Ho Lg (.lst (vw1.set m (.ref tp)))) := same_own sco nLZ
              have zLp : upd Ho Lg (.lst (vw1.set m (.ref tp))) Lg = some (.lst (vw1.set m (.ref tp))) := upd_same
              have hset' : Paired (RowT K (upd Ho Lg (.lst (vw1.set m (.ref tp))))) (vw1.set m (.ref tp)) (ws1.set m ns') := Paired.set' m (L2.Paired.mapP hp1 fun _ _ z => z.same (sZ.trans scp)) (RowT.upd zLo ⟨tp, rfl, .inl (.inl ztp)⟩)
              generalize upd Ho Lg (.lst (vw1.set m (.ref tp))) = Hq at *
              have nsl : ns'.length ≤ 60 := by
                rw [pm.length_eq, List.length_append]
                show w.length + 1 ≤ 60
                omega
              refine ⟨_, rfl, _, rfl, _, rfl, _, rfl, f, x, Lg, k, (m : Int), ds, us, rs, _, ws1.set m ns', r, ns', works, rfl, hB.same (sZ.trans scp), .inl (.inl zLp), hset', sameT scp hk, by omega, ⟨by omega, by simpa using hr2, by simp [h2l], hr60, nsl⟩, fun Hr sr => ?_⟩
              refine ⟨_, rfl, _, rfl, _, _, rfl, rfl, two, fun t3 nt3 => ⟨t3, [.int 0, .int 1], rfl, .inr (.inl (.inl upd_same)), rfl, rfl, _, rfl, ?_⟩⟩
              have hd2 := cnt_longer (r := r) (works := works) pm hz0.2.1
              rw [if_pos rfl, show inV (V.int (cnt2 r w works - cnt2 r ns' works)) [V.int 0, .int 1] = true from by rw [show [V.int 0, V.int 1] = [(0 : Int), 1].map V.int from rfl, inV_int]; exact decide_eq_true (by simpa using hd2)]
              exact iteF (done _ _ _ _ _ (scp.trans (sr.trans (sameU nt3))))
        · rintro σ Hb ⟨y12, y13, y14, y15, y16, y17, y18, y19, y20, y21, y22, rfl, sb⟩
          -- for some, away in ((rows, absent), (rows, gone), (other, absent))
          refine ⟨_, rfl, _, rfl, two, fun q1 g1 => ?_⟩
          have t1 : Same Hb (upd Hb q1 (.tup [.ref W1, .ref ab])) := sameU g1
          have z1 : upd Hb q1 (.tup [V.ref W1, .ref ab]) q1 = some (.tup [.ref W1, .ref ab]) := upd_same
          generalize upd Hb q1 (.tup [.ref W1, .ref ab]) = Hc at *
          refine ⟨_, rfl, _, rfl, two, fun q2 g2 => ?_⟩
          have t2 : Same Hc (upd Hc q2 (.tup [.ref W1, .ref gn])) := sameU g2
          have z2 : upd Hc q2 (.tup [V.ref W1, .ref gn]) q2 = some (.tup [.ref W1, .ref gn]) := upd_same
          generalize upd Hc q2 (.tup [.ref W1, .ref gn]) = Hd at *
          refine ⟨_, rfl, _, rfl, two, fun q3 g3 => ⟨three, fun q4 g4 => ?_⟩⟩
          have t3 : Same Hd (upd Hd q3 (.tup [.ref W2, .ref ab])) := sameU g3
          have z3 : upd Hd q3 (.tup [V.ref W2, .ref ab]) q3 = some (.tup [.ref W2, .ref ab]) := upd_same
          generalize upd Hd q3 (.tup [.ref W2, .ref ab]) = He at *
          have t4 : Same He (upd He q4 (.tup [.ref q1, .ref q2, .ref q3])) := sameU g4
          have z4 : upd He q4 (.tup [V.ref q1, .ref q2, .ref q3]) q4 = some (.tup [.ref q1, .ref q2, .ref q3]) := upd_same
          generalize upd He q4 (.tup [.ref q1, .ref q2, .ref q3]) = Hf at *
          have sbf : Same HZ Hf := sb.trans (t1.trans (t2.trans (t3.trans t4)))
          have sz := sZ.trans sbf
          -- what stands in each of the three
          have each : ∀ v ∈ [V.ref q1, .ref q2, .ref q3], ∃ (q W aw : Addr) (vw : List V) (ws : List (List Int)) (as : List Int), v = .ref q ∧ SqT K Hf q [.ref W, .ref aw] ∧ SqL K Hf W vw ∧ Paired (RowT K Hf) vw ws ∧ Paired RowOk rs ws ∧ SqT K Hf aw (as.map V.int) := by
            intro v hv
            have p1 : Paired (RowT K Hf) vw1 ws1 := L2.Paired.mapP hp1 fun _ _ z => z.same sz
            have p2 : Paired (RowT K Hf) vw2 ws2 := L2.Paired.mapP hp2 fun _ _ z => z.same sz
            simp only [List.mem_cons, List.not_mem_nil, or_false] at hv
            rcases hv with rfl | rfl | rfl
            · exact ⟨q1, W1, ab, vw1, ws1, as1, rfl, .inl (.inl ((t2.trans (t3.trans t4)) _ _ z1)), .inl (.inl (sz _ _ hw1)), p1, ro1, sameT sz hab⟩
            · exact ⟨q2, W1, gn, vw1, ws1, as2, rfl, .inl (.inl ((t3.trans t4) _ _ z2)), .inl (.inl (sz _ _ hw1)), p1, ro1, sameT sz hgn⟩
            · exact ⟨q3, W2, ab, vw2, ws2, as1, rfl, .inl (.inl (t4 _ _ z3)), .inl (.inl (sz _ _ hw2)), p2, ro2, sameT sz hab⟩
          refine ⟨q4, rfl, ⟨_, .inl (.inl z4)⟩, ?_⟩
          refine for_tup (K := K) (a := q4) (xs := [V.ref q1, .ref q2, .ref q3]) (fun j σ H' => ∃ y12 y13 y14 y15 y16 y17 y18 y19 y20 y21 y22 : Option V, σ = [some (.ref a), some (.int (0 + (i : Int))), some (.ref f), some (.ref A), some (.ref R), some (.ref x), some (.ref ab), some (.ref W1), some (.ref W2), some (.str sh), some (.ref gn), some (.ref k), y12, y13, y14, y15, y16, y17, y18, y19, y20, y21, y22] ∧ Same Hf H') ⟨y12, y13, y14, y15, y16, y17, y18, y19, y20, y21, y22, rfl, Same.refl Hf⟩ (fun j σ H' _ ⟨_, _, _, _, _, _, _, _, _, _, _, _, e⟩ => .inl (.inl (e _ _ z4))) ?_ ?_
          · rintro j v σ Hg hv ⟨y12, y13, y14, y15, y16, y17, y18, y19, y20, y21, y22, rfl, sg⟩
            obtain ⟨q, W, aw, vw, ws, as, rfl, hq, hW, hPw, ro, hAw⟩ := each v (List.mem_of_getElem? hv)
            refine ⟨q, _, rfl, sameT sg hq, rfl, _, _, rfl, _, _, rfl, rfl, ?_⟩
            have szg := sz.trans sg
            have hwl : ws.length = rs.length := (Paired.len ro).symm
            have rw_ : Rws K Hf W k rs vw ws ds.length works := ⟨hW, hPw, hwl, fun r hr => by
              have := (ok.ok r hr).2.2.len (by omega)
              omega, fun w hw => by
              have := (dig ws ro w hw).1
              omega, sameT sbf hk, by omega, fun z hz => asc.2 z hz⟩
            have same_sum : ((pres rs.length as).map (cntAt cnt1 rs ws works)).sum = ((pres rs.length as).map (cntAt cnt2 rs ws works)).sum := by
              congr 1
              refine List.map_congr_left fun p hp => ?_
              obtain ⟨m, hm, rfl⟩ := pres_mem hp
              obtain ⟨r, w, at_⟩ := rw_.at_ hm
              rw [at_.cnt, at_.cnt]
              obtain ⟨r2, hr2, o⟩ := Paired.at2 ro at_.row
              rw [at_.rd] at hr2
              cases hr2
              exact cnt_eq o (ok.ok r (List.mem_of_getElem? at_.rd)).2.2.1 asc.1
            -- due
            refine ⟨_, rfl, _, rfl, _, rfl, _, rfl, _, rfl, A, R, W, aw, k, ds, us, rs, vw, ws, as, works, rfl, .inl (.inl (szg _ _ hA)), .inl (.inl (szg _ _ hR)), L2.Paired.mapP hP fun _ _ z => z.same szg, by omega, rw_.same sg, sameT sg hAw, fun Hh sh' => ?_⟩
            have sgh := sg.trans sh'
            have szh := sz.trans sgh
            -- repr(is_short(..)) != repr(due)
            refine ⟨_, rfl, _, rfl, _, rfl, _, rfl, f, x, W, aw, k, ds, us, rs, vw, ws, as, works, rfl, hB.same szh, by omega, rw_.same sgh, sameT sgh hAw, fun Hi si => ?_⟩
            have eb : decide (((pres rs.length as).map (cntAt cnt2 rs ws works)).sum < wanted ds works) = decide (0 < wanted ds works - ((pres rs.length as).map (cntAt cnt1 rs ws works)).sum) := by
              rw [same_sum]
              exact decide_eq_decide.mpr ⟨fun h => by omega, fun h => by omega⟩
            rw [eb]
            have shb := show_bool (decide (0 < wanted ds works - ((pres rs.length as).map (cntAt cnt1 rs ws works)).sum))
            have five : (PyData.shown (.bool (decide (0 < wanted ds works - ((pres rs.length as).map (cntAt cnt1 rs ws works)).sum)))).length ≤ sizeLine := Nat.le_trans shb.2 (by decide)
            generalize decide (0 < wanted ds works - ((pres rs.length as).map (cntAt cnt1 rs ws works)).sum) = b at *
            refine ⟨_, .bool b, rfl, .bl _, shb.1, Nat.zero_le _, five, _, rfl, _, .bool b, rfl, .bl _, shb.1, Nat.zero_le _, five, rfl, _, rfl, ?_⟩
            show (if (!decide (V.str (PyData.shown (.bool b)) = V.str (PyData.shown (.bool b)))) = true then _ else _)
            exact iteNS rfl ⟨_, _, _, _, _, _, _, _, _, _, _, rfl, sgh.trans si⟩
          · rintro σ Hg ⟨y12, y13, y14, y15, y16, y17, y18, y19, y20, y21, y22, rfl, sg⟩
            exact ⟨_, _, _, _, _, _, _, _, _, _, _, _, rfl, sbf.trans sg⟩
      · rintro σ Ha ⟨y11, y12, y13, y14, y15, y16, y17, y18, y19, y20, y21, y22, rfl, sa⟩
        -- the last if
        have su := sZ.trans sa
        refine ⟨_, rfl, _, rfl, two, fun l2 nl2 => ⟨_, dPr (dWs ws1) (dWs ws2), rfl, ?_, shw.1, by omega, shl', ?_⟩⟩
        · have sl : Same Ha (upd Ha l2 (.lst [.ref W1, .ref W2])) := sameU nl2
          exact .lst (.inl (.inl upd_same)) (.cons (dp_dWs (.inl (.inl ((su.trans sl) _ _ hw1))) (L2.Paired.mapP hp1 fun _ _ z => z.same (su.trans sl))) (.cons (dp_dWs (.inl (.inl ((su.trans sl) _ _ hw2))) (L2.Paired.mapP hp2 fun _ _ z => z.same (su.trans sl))) .nil))
        rw [hsh]
        have sv : Same H12 (upd Ha l2 (.lst [.ref W1, .ref W2])) := su.trans (sameU nl2)
        generalize upd Ha l2 (.lst [.ref W1, .ref W2]) = Hb at *
        refine ⟨_, rfl, rfl, _, rfl, ?_⟩
        show (if (!decide (V.str sh = V.str sh)) = true then _ else _)
        refine iteNS rfl ?_
        refine ⟨_, rfl, _, rfl, _, rfl, fun x' dx' nx ndx nex => init_of (K := K) (rs := rs) (f := f) (let ⟨d, t, e⟩ := hf12; ⟨d, t, sv _ _ e⟩) nx ndx nex (.inl (.inl (sv _ _ hA))) (.inl (.inl (sv _ _ hR))) (L2.Paired.mapP hP fun _ _ z => z.same sv) ok fun Hc sc bc => ⟨rfl, ?_⟩⟩
        have sw := sv.trans sc
        obtain ⟨dx2, A2, R2, hx2, _⟩ := id bc
        refine ⟨x, dxb, _, .ref C, rfl, sw _ _ hxb, .base (.ins hx2 T.ic.cl T.ic.ha T.ic.hn T.ic.htk T.ic.hm), T.sub, f, x, .ref x', ds, us, rs, rfl, hB.same sw, .inl ⟨f, x', ds, us, rs, rfl, bc, _, rfl, ?_⟩⟩
        rw [decide_eq_true rfl, decide_eq_true rfl]
        refine ⟨_, rfl, ?_⟩
        show (if (!true) = true then _ else _)
        exact iteF ⟨_, _, _, _, _, _, _, _, _, _, _, _, _, _, _, _, _, _, _, _, _, _, rfl, s12.trans sw⟩
    · rintro σ H1 ⟨y1, y2, y3, y4, y5, y6, y7, y8, y9, y10, y11, y12, y13, y14, y15, y16, y17, y18, y19, y20, y21, y22, rfl, s1⟩
      exact q _
end
end Ew
namespace Ew
open PySem PySem.Spec PyProof.Rows L2
theorem notF {K : PySem.W.Frag} {C : Addr} {t : Value} (h : PySem.W.subIn K t (.ref C) = some false) : PySem.W.notFirst K C t = true := by
  unfold PySem.W.notFirst
  rw [h]
  simp
theorem all_mk {l : PySem.W.OpenLaw} {w : World} {K : PySem.W.Frag} {h : Heap} {mg : Str → Option Value} {fa : Addr} (X : K.In h) (G : h.Ns mainGlobals mg) (hfa : mg "law" = some (.ref fa))
    {f1 : Addr} {od1 an1 : Option Addr} {sl1 : Array (Option Value)} {oc1 kV1 dc1 pm1 cd1 ct1 : Value}
    {f2 : Addr} {od2 an2 : Option Addr} {sl2 : Array (Option Value)} {oc2 kV2 dc2 pm2 cd2 ct2 : Value}
    {f3 : Addr} {od3 an3 : Option Addr} {sl3 : Array (Option Value)} {oc3 kV3 dc3 pm3 cd3 ct3 : Value}
    {f4 : Addr} {od4 an4 : Option Addr} {sl4 : Array (Option Value)} {oc4 kV4 dc4 pm4 cd4 ct4 : Value}
    {f5 : Addr} {od5 an5 : Option Addr} {sl5 : Array (Option Value)} {oc5 kV5 dc5 pm5 cd5 ct5 : Value}
    {f6 : Addr} {od6 an6 : Option Addr} {sl6 : Array (Option Value)} {oc6 kV6 dc6 pm6 cd6 ct6 : Value}
    {f7 : Addr} {od7 an7 : Option Addr} {sl7 : Array (Option Value)} {oc7 kV7 dc7 pm7 cd7 ct7 : Value}
    {f8 : Addr} {od8 an8 : Option Addr} {sl8 : Array (Option Value)} {oc8 kV8 dc8 pm8 cd8 ct8 : Value}
    {f9 : Addr} {od9 an9 : Option Addr} {sl9 : Array (Option Value)} {oc9 kV9 dc9 pm9 cd9 ct9 : Value}
    {f10 : Addr} {od10 an10 : Option Addr} {sl10 : Array (Option Value)} {oc10 kV10 dc10 pm10 cd10 ct10 : Value}
    {f11 : Addr} {od11 an11 : Option Addr} {sl11 : Array (Option Value)} {oc11 kV11 dc11 pm11 cd11 ct11 : Value}
    {f12 : Addr} {od12 an12 : Option Addr} {sl12 : Array (Option Value)} {oc12 kV12 dc12 pm12 cd12 ct12 : Value}
    {f13 : Addr} {od13 an13 : Option Addr} {sl13 : Array (Option Value)} {oc13 kV13 dc13 pm13 cd13 ct13 : Value}
    {f14 : Addr} {od14 an14 : Option Addr} {sl14 : Array (Option Value)} {oc14 kV14 dc14 pm14 cd14 ct14 : Value}
    {f15 : Addr} {od15 an15 : Option Addr} {sl15 : Array (Option Value)} {oc15 kV15 dc15 pm15 cd15 ct15 : Value}
    {f16 : Addr} {od16 an16 : Option Addr} {sl16 : Array (Option Value)} {oc16 kV16 dc16 pm16 cd16 ct16 : Value}
    {f17 : Addr} {od17 an17 : Option Addr} {sl17 : Array (Option Value)} {oc17 kV17 dc17 pm17 cd17 ct17 : Value}
    {f18 : Addr} {od18 an18 : Option Addr} {sl18 : Array (Option Value)} {oc18 kV18 dc18 pm18 cd18 ct18 : Value}
    {f19 : Addr} {od19 an19 : Option Addr} {sl19 : Array (Option Value)} {oc19 kV19 dc19 pm19 cd19 ct19 : Value}
    {f20 : Addr} {od20 an20 : Option Addr} {sl20 : Array (Option Value)} {oc20 kV20 dc20 pm20 cd20 ct20 : Value}
    {f21 : Addr} {od21 an21 : Option Addr} {sl21 : Array (Option Value)} {oc21 kV21 dc21 pm21 cd21 ct21 : Value}
    {f22 : Addr} {od22 an22 : Option Addr} {sl22 : Array (Option Value)} {oc22 kV22 dc22 pm22 cd22 ct22 : Value}
    {C : Addr}
    {fm1 : Addr} {odm1 anm1 : Option Addr} {slm1 : Array (Option Value)} {ocm1 kVm1 dcm1 pmm1 cdm1 ctm1 : Value}
    {fm2 : Addr} {odm2 anm2 : Option Addr} {slm2 : Array (Option Value)} {ocm2 kVm2 dcm2 pmm2 cdm2 ctm2 : Value}
    {fm3 : Addr} {odm3 anm3 : Option Addr} {slm3 : Array (Option Value)} {ocm3 kVm3 dcm3 pmm3 cdm3 ctm3 : Value}
    {fm4 : Addr} {odm4 anm4 : Option Addr} {slm4 : Array (Option Value)} {ocm4 kVm4 dcm4 pmm4 cdm4 ctm4 : Value}
    {g0 g1 g2 : Tok}
    (a1 : PySem.W.nsIn K mainGlobals "is_integer" = some (some (.ref f1)))
    (l1 : K.lookup f1 = some ⟨oc1, od1, .func (PySem.W.fnOf "is_integer" "is_integer" (defArgs sIsInt) (defBody sIsInt) (defScope sIsInt) .none kV1 dc1 pm1 an1 cd1 ct1), sl1⟩)
    (c1 : PySem.W.codeIn K cd1 "is_integer" = true)
    (k1 : PySem.W.keepIn K (.ref f1) = true)
    (a2 : PySem.W.nsIn K mainGlobals "is_amount" = some (some (.ref f2)))
    (l2 : K.lookup f2 = some ⟨oc2, od2, .func (PySem.W.fnOf "is_amount" "is_amount" (defArgs sIsAmt) (defBody sIsAmt) (defScope sIsAmt) .none kV2 dc2 pm2 an2 cd2 ct2), sl2⟩)
    (c2 : PySem.W.codeIn K cd2 "is_amount" = true)
    (k2 : PySem.W.keepIn K (.ref f2) = true)
    (a3 : PySem.W.nsIn K mainGlobals "is_ascending" = some (some (.ref f3)))
    (l3 : K.lookup f3 = some ⟨oc3, od3, .func (PySem.W.fnOf "is_ascending" "is_ascending" (defArgs sIsAsc) (defBody sIsAsc) (defScope sIsAsc) .none kV3 dc3 pm3 an3 cd3 ct3), sl3⟩)
    (c3 : PySem.W.codeIn K cd3 "is_ascending" = true)
    (k3 : PySem.W.keepIn K (.ref f3) = true)
    (a4 : PySem.W.nsIn K mainGlobals "are_demands" = some (some (.ref f4)))
    (l4 : K.lookup f4 = some ⟨oc4, od4, .func (PySem.W.fnOf "are_demands" "are_demands" (defArgs sAreDem) (defBody sAreDem) (defScope sAreDem) .none kV4 dc4 pm4 an4 cd4 ct4), sl4⟩)
    (c4 : PySem.W.codeIn K cd4 "are_demands" = true)
    (k4 : PySem.W.keepIn K (.ref f4) = true)
    (a5 : PySem.W.nsIn K mainGlobals "is_reader" = some (some (.ref f5)))
    (l5 : K.lookup f5 = some ⟨oc5, od5, .func (PySem.W.fnOf "is_reader" "is_reader" (defArgs sIsRd) (defBody sIsRd) (defScope sIsRd) .none kV5 dc5 pm5 an5 cd5 ct5), sl5⟩)
    (c5 : PySem.W.codeIn K cd5 "is_reader" = true)
    (k5 : PySem.W.keepIn K (.ref f5) = true)
    (a6 : PySem.W.nsIn K mainGlobals "_law_feed" = some (some (.ref f6)))
    (l6 : K.lookup f6 = some ⟨oc6, od6, .func (PySem.W.fnOf "_law_feed" "_law_feed" (defArgs sFeed) (defBody sFeed) (defScope sFeed) .none kV6 dc6 pm6 an6 cd6 ct6), sl6⟩)
    (c6 : PySem.W.codeIn K cd6 "_law_feed" = true)
    (k6 : PySem.W.keepIn K (.ref f6) = true)
    (a7 : PySem.W.nsIn K mainGlobals "_law_take" = some (some (.ref f7)))
    (l7 : K.lookup f7 = some ⟨oc7, od7, .func (PySem.W.fnOf "_law_take" "_law_take" (defArgs sTake) (defBody sTake) (defScope sTake) .none kV7 dc7 pm7 an7 cd7 ct7), sl7⟩)
    (c7 : PySem.W.codeIn K cd7 "_law_take" = true)
    (k7 : PySem.W.keepIn K (.ref f7) = true)
    (a8 : PySem.W.nsIn K mainGlobals "_law_pick" = some (some (.ref f8)))
    (l8 : K.lookup f8 = some ⟨oc8, od8, .func (PySem.W.fnOf "_law_pick" "_law_pick" (defArgs sPick) (defBody sPick) (defScope sPick) .none kV8 dc8 pm8 an8 cd8 ct8), sl8⟩)
    (c8 : PySem.W.codeIn K cd8 "_law_pick" = true)
    (k8 : PySem.W.keepIn K (.ref f8) = true)
    (a9 : PySem.W.nsIn K mainGlobals "_law_row" = some (some (.ref f9)))
    (l9 : K.lookup f9 = some ⟨oc9, od9, .func (PySem.W.fnOf "_law_row" "_law_row" (defArgs sRow) (defBody sRow) (defScope sRow) .none kV9 dc9 pm9 an9 cd9 ct9), sl9⟩)
    (c9 : PySem.W.codeIn K cd9 "_law_row" = true)
    (k9 : PySem.W.keepIn K (.ref f9) = true)
    (a10 : PySem.W.nsIn K mainGlobals "_law_rows" = some (some (.ref f10)))
    (l10 : K.lookup f10 = some ⟨oc10, od10, .func (PySem.W.fnOf "_law_rows" "_law_rows" (defArgs sRows) (defBody sRows) (defScope sRows) .none kV10 dc10 pm10 an10 cd10 ct10), sl10⟩)
    (c10 : PySem.W.codeIn K cd10 "_law_rows" = true)
    (k10 : PySem.W.keepIn K (.ref f10) = true)
    (a11 : PySem.W.nsIn K mainGlobals "_law_times" = some (some (.ref f11)))
    (l11 : K.lookup f11 = some ⟨oc11, od11, .func (PySem.W.fnOf "_law_times" "_law_times" (defArgs sTimes) (defBody sTimes) (defScope sTimes) .none kV11 dc11 pm11 an11 cd11 ct11), sl11⟩)
    (c11 : PySem.W.codeIn K cd11 "_law_times" = true)
    (k11 : PySem.W.keepIn K (.ref f11) = true)
    (a12 : PySem.W.nsIn K mainGlobals "_law_book" = some (some (.ref f12)))
    (l12 : K.lookup f12 = some ⟨oc12, od12, .func (PySem.W.fnOf "_law_book" "_law_book" (defArgs sBook) (defBody sBook) (defScope sBook) .none kV12 dc12 pm12 an12 cd12 ct12), sl12⟩)
    (c12 : PySem.W.codeIn K cd12 "_law_book" = true)
    (k12 : PySem.W.keepIn K (.ref f12) = true)
    (a13 : PySem.W.nsIn K mainGlobals "_law_gone" = some (some (.ref f13)))
    (l13 : K.lookup f13 = some ⟨oc13, od13, .func (PySem.W.fnOf "_law_gone" "_law_gone" (defArgs sGone) (defBody sGone) (defScope sGone) .none kV13 dc13 pm13 an13 cd13 ct13), sl13⟩)
    (c13 : PySem.W.codeIn K cd13 "_law_gone" = true)
    (k13 : PySem.W.keepIn K (.ref f13) = true)
    (a14 : PySem.W.nsIn K mainGlobals "_law_present" = some (some (.ref f14)))
    (l14 : K.lookup f14 = some ⟨oc14, od14, .func (PySem.W.fnOf "_law_present" "_law_present" (defArgs sPrs) (defBody sPrs) (defScope sPrs) .none kV14 dc14 pm14 an14 cd14 ct14), sl14⟩)
    (c14 : PySem.W.codeIn K cd14 "_law_present" = true)
    (k14 : PySem.W.keepIn K (.ref f14) = true)
    (a15 : PySem.W.nsIn K mainGlobals "present_readers" = some (some (.ref f15)))
    (l15 : K.lookup f15 = some ⟨oc15, od15, .func (PySem.W.fnOf "present_readers" "present_readers" (defArgs sPkPrs) (defBody sPkPrs) (defScope sPkPrs) .none kV15 dc15 pm15 an15 cd15 ct15), sl15⟩)
    (c15 : PySem.W.codeIn K cd15 "present_readers" = true)
    (k15 : PySem.W.keepIn K (.ref f15) = true)
    (a16 : PySem.W.nsIn K mainGlobals "count" = some (some (.ref f16)))
    (l16 : K.lookup f16 = some ⟨oc16, od16, .func (PySem.W.fnOf "count" "count" (defArgs sPkCount) (defBody sPkCount) (defScope sPkCount) .none kV16 dc16 pm16 an16 cd16 ct16), sl16⟩)
    (c16 : PySem.W.codeIn K cd16 "count" = true)
    (k16 : PySem.W.keepIn K (.ref f16) = true)
    (a17 : PySem.W.nsIn K mainGlobals "is_short" = some (some (.ref f17)))
    (l17 : K.lookup f17 = some ⟨oc17, od17, .func (PySem.W.fnOf "is_short" "is_short" (defArgs sPkShort) (defBody sPkShort) (defScope sPkShort) .none kV17 dc17 pm17 an17 cd17 ct17), sl17⟩)
    (c17 : PySem.W.codeIn K cd17 "is_short" = true)
    (k17 : PySem.W.keepIn K (.ref f17) = true)
    (a18 : PySem.W.nsIn K mainGlobals "_law_count" = some (some (.ref f18)))
    (l18 : K.lookup f18 = some ⟨oc18, od18, .func (PySem.W.fnOf "_law_count" "_law_count" (defArgs sCnt) (defBody sCnt) (defScope sCnt) .none kV18 dc18 pm18 an18 cd18 ct18), sl18⟩)
    (c18 : PySem.W.codeIn K cd18 "_law_count" = true)
    (k18 : PySem.W.keepIn K (.ref f18) = true)
    (a19 : PySem.W.nsIn K mainGlobals "_law_lack" = some (some (.ref f19)))
    (l19 : K.lookup f19 = some ⟨oc19, od19, .func (PySem.W.fnOf "_law_lack" "_law_lack" (defArgs sLack) (defBody sLack) (defScope sLack) .none kV19 dc19 pm19 an19 cd19 ct19), sl19⟩)
    (c19 : PySem.W.codeIn K cd19 "_law_lack" = true)
    (k19 : PySem.W.keepIn K (.ref f19) = true)
    (a20 : PySem.W.nsIn K mainGlobals "_law_is_short" = some (some (.ref f20)))
    (l20 : K.lookup f20 = some ⟨oc20, od20, .func (PySem.W.fnOf "_law_is_short" "_law_is_short" (defArgs sShort) (defBody sShort) (defScope sShort) .none kV20 dc20 pm20 an20 cd20 ct20), sl20⟩)
    (c20 : PySem.W.codeIn K cd20 "_law_is_short" = true)
    (k20 : PySem.W.keepIn K (.ref f20) = true)
    (a21 : PySem.W.nsIn K mainGlobals "_law_sets" = some (some (.ref f21)))
    (l21 : K.lookup f21 = some ⟨oc21, od21, .func (PySem.W.fnOf "_law_sets" "_law_sets" (defArgs sSets) (defBody sSets) (defScope sSets) .none kV21 dc21 pm21 an21 cd21 ct21), sl21⟩)
    (c21 : PySem.W.codeIn K cd21 "_law_sets" = true)
    (k21 : PySem.W.keepIn K (.ref f21) = true)
    (a22 : PySem.W.nsIn K mainGlobals "law" = some (some (.ref f22)))
    (l22 : K.lookup f22 = some ⟨oc22, od22, .func (PySem.W.fnOf "law" "law" (defArgs sLaw) (defBody sLaw) (defScope sLaw) .none kV22 dc22 pm22 an22 cd22 ct22), sl22⟩)
    (c22 : PySem.W.codeIn K cd22 "law" = true)
    (k22 : PySem.W.keepIn K (.ref f22) = true)
    (aC : PySem.W.nsIn K mainGlobals "Book" = some (some (.ref C)))
    (am1 : PySem.W.findIn K (.ref C) "__init__" = some (some (.ref fm1)))
    (im1 : PySem.W.isFn K (.ref fm1) = true)
    (lm1 : K.lookup fm1 = some ⟨ocm1, odm1, .func (PySem.W.fnOf "__init__" "Book.__init__" (defArgs sBkInit) (defBody sBkInit) (defScope sBkInit) .none kVm1 dcm1 pmm1 anm1 cdm1 ctm1), slm1⟩)
    (cm1 : PySem.W.codeIn K cdm1 "Book.__init__" = true)
    (km1 : PySem.W.keepIn K (.ref fm1) = true)
    (am2 : PySem.W.findIn K (.ref C) "demands" = some (some (.ref fm2)))
    (im2 : PySem.W.isFn K (.ref fm2) = true)
    (lm2 : K.lookup fm2 = some ⟨ocm2, odm2, .func (PySem.W.fnOf "demands" "Book.demands" (defArgs sBkDem) (defBody sBkDem) (defScope sBkDem) .none kVm2 dcm2 pmm2 anm2 cdm2 ctm2), slm2⟩)
    (cm2 : PySem.W.codeIn K cdm2 "Book.demands" = true)
    (km2 : PySem.W.keepIn K (.ref fm2) = true)
    (am3 : PySem.W.findIn K (.ref C) "readers" = some (some (.ref fm3)))
    (im3 : PySem.W.isFn K (.ref fm3) = true)
    (lm3 : K.lookup fm3 = some ⟨ocm3, odm3, .func (PySem.W.fnOf "readers" "Book.readers" (defArgs sBkRd) (defBody sBkRd) (defScope sBkRd) .none kVm3 dcm3 pmm3 anm3 cdm3 ctm3), slm3⟩)
    (cm3 : PySem.W.codeIn K cdm3 "Book.readers" = true)
    (km3 : PySem.W.keepIn K (.ref fm3) = true)
    (am4 : PySem.W.findIn K (.ref C) "__eq__" = some (some (.ref fm4)))
    (im4 : PySem.W.isFn K (.ref fm4) = true)
    (lm4 : K.lookup fm4 = some ⟨ocm4, odm4, .func (PySem.W.fnOf "__eq__" "Book.__eq__" (defArgs sBkEq) (defBody sBkEq) (defScope sBkEq) .none kVm4 dcm4 pmm4 anm4 cdm4 ctm4), slm4⟩)
    (cm4 : PySem.W.codeIn K cdm4 "Book.__eq__" = true)
    (km4 : PySem.W.keepIn K (.ref fm4) = true)
    (pg : PySem.W.plainGet K C Str.empty = true)
    (hd : PySem.W.hasDictIn K C = true)
    (po : PySem.W.plainOver K C = true)
    (sa : PySem.W.findIn K (.ref C) "__setattr__" = some (some (.builtin "object.__setattr__")))
    (mk : PySem.W.makesIn K C = true)
    (kc : PySem.W.keepIn K (.ref C) = true)
    (nD : PySem.W.findIn K (.ref C) "_demands" = some none)
    (nR : PySem.W.findIn K (.ref C) "_readers" = some none)
    (ha : PySem.W.findIn K (.ref C) "__class__" = some (some (.builtin "object.__class__")))
    (hn : PySem.W.specialIn K (.builtin "object.__class__") "__get__" = some (some (.builtin "getset_descriptor.__get__")))
    (htk : PySem.W.takesIn K (.builtin "object.__class__") = some true)
    (hm : PySem.W.mroIn K C (.type "object") = some true)
    (me : PySem.W.kitOne K (.ref C) (.ref C) = some true)
    (t0 : PySem.W.kitOne K (.type "NoneType") (.ref C) = some false)
    (u0 : PySem.W.subIn K (.type "NoneType") (.ref C) = some false)
    (t1 : PySem.W.kitOne K (.type "bool") (.ref C) = some false)
    (u1 : PySem.W.subIn K (.type "bool") (.ref C) = some false)
    (t2 : PySem.W.kitOne K (.type "int") (.ref C) = some false)
    (u2 : PySem.W.subIn K (.type "int") (.ref C) = some false)
    (t3 : PySem.W.kitOne K (.type "str") (.ref C) = some false)
    (u3 : PySem.W.subIn K (.type "str") (.ref C) = some false)
    (t4 : PySem.W.kitOne K (.type "list") (.ref C) = some false)
    (u4 : PySem.W.subIn K (.type "list") (.ref C) = some false)
    (t5 : PySem.W.kitOne K (.type "tuple") (.ref C) = some false)
    (u5 : PySem.W.subIn K (.type "tuple") (.ref C) = some false)
    (t6 : PySem.W.kitOne K (.type "dict") (.ref C) = some false)
    (u6 : PySem.W.subIn K (.type "dict") (.ref C) = some false)
    (z0 : PySem.W.nsIn K mainGlobals "len" = some none)
    (z1 : PySem.W.nsIn K mainGlobals "range" = some none)
    (z2 : PySem.W.nsIn K mainGlobals "list" = some none)
    (z3 : PySem.W.nsIn K mainGlobals "tuple" = some none)
    (z4 : PySem.W.nsIn K mainGlobals "int" = some none)
    (z5 : PySem.W.nsIn K mainGlobals "bool" = some none)
    (z6 : PySem.W.nsIn K mainGlobals "abs" = some none)
    (z7 : PySem.W.nsIn K mainGlobals "max" = some none)
    (z8 : PySem.W.nsIn K mainGlobals "min" = some none)
    (z9 : PySem.W.nsIn K mainGlobals "sorted" = some none)
    (z10 : PySem.W.nsIn K mainGlobals "enumerate" = some none)
    (z11 : PySem.W.nsIn K mainGlobals "isinstance" = some none)
    (z12 : PySem.W.nsIn K mainGlobals "all" = some none)
    (z13 : PySem.W.nsIn K mainGlobals "sum" = some none)
    (z14 : PySem.W.nsIn K mainGlobals "zip" = some none)
    (z15 : PySem.W.nsIn K mainGlobals "repr" = some none)
    (g0x : PySem.W.nsIn K mainGlobals "GREATEST_AMOUNT" = some (some (.int 6 g0)))
    (g1x : PySem.W.nsIn K mainGlobals "MOST_WORKS" = some (some (.int 6 g1)))
    (g2x : PySem.W.nsIn K mainGlobals "MOST_READERS" = some (some (.int 6 g2))) :
    ∃ fd : FuncData, (∀ (s : Shared) (v : Value), BindsTo s fd ⟨[v], []⟩ [("script", v)]) ∧ ∀ base : Heap, K.In base → base.Ns mainGlobals mg → FnOkG l.prog w K mg base 6 fa fd ["script"] (spLaw K) := by
  have e := hfa.symm.trans (PySem.W.mg_of X G a22)
  cases e
  have F1 := fun_mk (st := sIsInt) l1 c1 k1
  have b1 := F1.binds (ps := ["value"]) fun _ _ _ _ _ _ us hl => match us, hl with | [_], _ => rfl
  have F2 := fun_mk (st := sIsAmt) l2 c2 k2
  have b2 := F2.binds (ps := ["value"]) fun _ _ _ _ _ _ us hl => match us, hl with | [_], _ => rfl
  have F3 := fun_mk (st := sIsAsc) l3 c3 k3
  have b3 := F3.binds (ps := ["value", "many"]) fun _ _ _ _ _ _ us hl => match us, hl with | [_, _], _ => rfl
  have F4 := fun_mk (st := sAreDem) l4 c4 k4
  have b4 := F4.binds (ps := ["value"]) fun _ _ _ _ _ _ us hl => match us, hl with | [_], _ => rfl
  have F5 := fun_mk (st := sIsRd) l5 c5 k5
  have b5 := F5.binds (ps := ["value", "many"]) fun _ _ _ _ _ _ us hl => match us, hl with | [_, _], _ => rfl
  have F6 := fun_mk (st := sFeed) l6 c6 k6
  have b6 := F6.binds (ps := ["script", "k"]) fun _ _ _ _ _ _ us hl => match us, hl with | [_, _], _ => rfl
  have F7 := fun_mk (st := sTake) l7 c7 k7
  have b7 := F7.binds (ps := ["feed", "many"]) fun _ _ _ _ _ _ us hl => match us, hl with | [_, _], _ => rfl
  have F8 := fun_mk (st := sPick) l8 c8 k8
  have b8 := F8.binds (ps := ["feed", "some"]) fun _ _ _ _ _ _ us hl => match us, hl with | [_, _], _ => rfl
  have F9 := fun_mk (st := sRow) l9 c9 k9
  have b9 := F9.binds (ps := ["feed", "reader"]) fun _ _ _ _ _ _ us hl => match us, hl with | [_, _], _ => rfl
  have F10 := fun_mk (st := sRows) l10 c10 k10
  have b10 := F10.binds (ps := ["feed", "readers", "absent"]) fun _ _ _ _ _ _ us hl => match us, hl with | [_, _, _], _ => rfl
  have F11 := fun_mk (st := sTimes) l11 c11 k11
  have b11 := F11.binds (ps := ["rows", "works"]) fun _ _ _ _ _ _ us hl => match us, hl with | [_, _], _ => rfl
  have F12 := fun_mk (st := sBook) l12 c12 k12
  have b12 := F12.binds (ps := ["feed", "most_works", "most_readers"]) fun _ _ _ _ _ _ us hl => match us, hl with | [_, _, _], _ => rfl
  have F13 := fun_mk (st := sGone) l13 c13 k13
  have b13 := F13.binds (ps := ["feed", "readers"]) fun _ _ _ _ _ _ us hl => match us, hl with | [_, _], _ => rfl
  have F14 := fun_mk (st := sPrs) l14 c14 k14
  have b14 := F14.binds (ps := ["readers", "absent"]) fun _ _ _ _ _ _ us hl => match us, hl with | [_, _], _ => rfl
  have F15 := fun_mk (st := sPkPrs) l15 c15 k15
  have b15 := F15.binds (ps := ["book", "absent"]) fun _ _ _ _ _ _ us hl => match us, hl with | [_, _], _ => rfl
  have F16 := fun_mk (st := sPkCount) l16 c16 k16
  have b16 := F16.binds (ps := ["book", "rows", "reader", "works"]) fun _ _ _ _ _ _ us hl => match us, hl with | [_, _, _, _], _ => rfl
  have F17 := fun_mk (st := sPkShort) l17 c17 k17
  have b17 := F17.binds (ps := ["book", "rows", "absent", "works"]) fun _ _ _ _ _ _ us hl => match us, hl with | [_, _, _, _], _ => rfl
  have F18 := fun_mk (st := sCnt) l18 c18 k18
  have b18 := F18.binds (ps := ["readers", "rows", "reader", "works"]) fun _ _ _ _ _ _ us hl => match us, hl with | [_, _, _, _], _ => rfl
  have F19 := fun_mk (st := sLack) l19 c19 k19
  have b19 := F19.binds (ps := ["demands", "readers", "rows", "some", "works"]) fun _ _ _ _ _ _ us hl => match us, hl with | [_, _, _, _, _], _ => rfl
  have F20 := fun_mk (st := sShort) l20 c20 k20
  have b20 := F20.binds (ps := ["demands", "readers", "rows", "absent", "works"]) fun _ _ _ _ _ _ us hl => match us, hl with | [_, _, _, _, _], _ => rfl
  have F21 := fun_mk (st := sSets) l21 c21 k21
  have b21 := F21.binds (ps := ["things"]) fun _ _ _ _ _ _ us hl => match us, hl with | [_], _ => rfl
  have F22 := fun_mk (st := sLaw) l22 c22 k22
  have b22 := F22.binds (ps := ["script"]) fun _ _ _ _ _ _ us hl => match us, hl with | [_], _ => rfl
  have Fm1 := fun_mk (st := sBkInit) lm1 cm1 km1
  have bm1 := Fm1.binds (ps := ["self", "demands", "readers"]) fun _ _ _ _ _ _ us hl => match us, hl with | [_, _, _], _ => rfl
  have Fm2 := fun_mk (st := sBkDem) lm2 cm2 km2
  have bm2 := Fm2.binds (ps := ["self"]) fun _ _ _ _ _ _ us hl => match us, hl with | [_], _ => rfl
  have Fm3 := fun_mk (st := sBkRd) lm3 cm3 km3
  have bm3 := Fm3.binds (ps := ["self"]) fun _ _ _ _ _ _ us hl => match us, hl with | [_], _ => rfl
  have Fm4 := fun_mk (st := sBkEq) lm4 cm4 km4
  have bm4 := Fm4.binds (ps := ["self", "other"]) fun _ _ _ _ _ _ us hl => match us, hl with | [_, _], _ => rfl
  have B : Bi mg := ⟨PySem.W.mg_none_of X G z0, PySem.W.mg_none_of X G z1, PySem.W.mg_none_of X G z2, PySem.W.mg_none_of X G z3, PySem.W.mg_none_of X G z4, PySem.W.mg_none_of X G z5, PySem.W.mg_none_of X G z6, PySem.W.mg_none_of X G z7, PySem.W.mg_none_of X G z8, PySem.W.mg_none_of X G z9, PySem.W.mg_none_of X G z10, PySem.W.mg_none_of X G z11, PySem.W.mg_none_of X G z12, PySem.W.mg_none_of X G z13, PySem.W.mg_none_of X G z14, PySem.W.mg_none_of X G z15⟩
  have L : Low K mg := ⟨B, ⟨_, _, F6, b6, PySem.W.mg_of X G a6⟩, ⟨_, _, F7, b7, PySem.W.mg_of X G a7⟩, ⟨_, _, F8, b8, PySem.W.mg_of X G a8⟩, ⟨_, _, F9, b9, PySem.W.mg_of X G a9⟩, ⟨_, _, F10, b10, PySem.W.mg_of X G a10⟩, ⟨_, _, F11, b11, PySem.W.mg_of X G a11⟩, ⟨_, _, F12, b12, PySem.W.mg_of X G a12⟩⟩
  have V1 : Vals1 K mg := ⟨B, ⟨_, PySem.W.mg_of X G g0x⟩, ⟨_, PySem.W.mg_of X G g1x⟩, ⟨_, PySem.W.mg_of X G g2x⟩, ⟨_, _, F1, b1, PySem.W.mg_of X G a1⟩, ⟨_, _, F2, b2, PySem.W.mg_of X G a2⟩, ⟨_, _, F3, b3, PySem.W.mg_of X G a3⟩, ⟨_, _, F4, b4, PySem.W.mg_of X G a4⟩, ⟨_, _, F5, b5, PySem.W.mg_of X G a5⟩⟩
  have cl : Cls K C := ⟨pg, hd, po, sa⟩
  have TB : BookTxt K mg C := ⟨cl, nD, nR, PySem.W.mg_of X G aC, ⟨_, _, Fm1, bm1, ⟨mk, am1, im1, kc⟩⟩, ⟨_, _, Fm2, bm2, ⟨am2, im2, km2⟩⟩, ⟨_, _, Fm3, bm3, ⟨am3, im3, km3⟩⟩, ⟨_, _, Fm4, bm4, ⟨am4, im4, km4⟩⟩, ⟨cl, ha, hn, htk, hm, me⟩, by simp [PySem.W.notFirst]⟩
  have N : NoBook K C := by
    intro T hT
    simp only [List.mem_cons, List.not_mem_nil, or_false] at hT
    rcases hT with rfl | rfl | rfl | rfl | rfl | rfl | rfl
    · exact ⟨t0, notF u0⟩
    · exact ⟨t1, notF u1⟩
    · exact ⟨t2, notF u2⟩
    · exact ⟨t3, notF u3⟩
    · exact ⟨t4, notF u4⟩
    · exact ⟨t5, notF u5⟩
    · exact ⟨t6, notF u6⟩
  have O : Own6 K mg := ⟨⟨_, _, F13, b13, PySem.W.mg_of X G a13⟩, ⟨_, _, F14, b14, PySem.W.mg_of X G a14⟩, ⟨_, _, F15, b15, PySem.W.mg_of X G a15⟩, ⟨_, _, F16, b16, PySem.W.mg_of X G a16⟩, ⟨_, _, F17, b17, PySem.W.mg_of X G a17⟩, ⟨_, _, F18, b18, PySem.W.mg_of X G a18⟩, ⟨_, _, F19, b19, PySem.W.mg_of X G a19⟩, ⟨_, _, F20, b20, PySem.W.mg_of X G a20⟩, ⟨_, _, F21, b21, PySem.W.mg_of X G a21⟩⟩
  exact ⟨PySem.W.fnOf "law" "law" (defArgs sLaw) (defBody sLaw) (defScope sLaw) .none kV22 dc22 pm22 an22 cd22 ct22, fun s v => .of_eq rfl, fun base _ _ => ok_law F22 L V1 TB N O⟩
end Ew
open PySem PySem.W PyProof.Rows in
set_option maxRecDepth 100000 in
set_option maxHeartbeats 0 in
theorem PySem.Challenge.cw_eachworkread_k06_counts_holds : PySem.Challenge.rw_eachworkread_k06_counts.Holds := by
  w_on; o_law; k_head; (case hw => w_witness2)
  k_fill
  refine Ew.walk_ofG (l := PySem.Challenge.rw_eachworkread_k06_counts) (n := 63) (k := 6) (x := "script") (sp := fun w => Ew.spLaw _) rfl (by decide) rfl ⟨rfl, by decide, by decide⟩ (fun w h Y => PySem.W.kIn_of Y) ?F (fun _ _ a ns hl hS => ⟨a, ns, rfl, hS, hl, fun _ => rfl⟩)
  case F =>
    intro w mg fa h KX G hmg
    refine' Ew.all_mk KX G hmg ?a1 ?l1 ?c1 ?k1 ?a2 ?l2 ?c2 ?k2 ?a3 ?l3 ?c3 ?k3 ?a4 ?l4 ?c4 ?k4 ?a5 ?l5 ?c5 ?k5 ?a6 ?l6 ?c6 ?k6 ?a7 ?l7 ?c7 ?k7 ?a8 ?l8 ?c8 ?k8 ?a9 ?l9 ?c9 ?k9 ?a10 ?l10 ?c10 ?k10 ?a11 ?l11 ?c11 ?k11 ?a12 ?l12 ?c12 ?k12 ?a13 ?l13 ?c13 ?k13 ?a14 ?l14 ?c14 ?k14 ?a15 ?l15 ?c15 ?k15 ?a16 ?l16 ?c16 ?k16 ?a17 ?l17 ?c17 ?k17 ?a18 ?l18 ?c18 ?k18 ?a19 ?l19 ?c19 ?k19 ?a20 ?l20 ?c20 ?k20 ?a21 ?l21 ?c21 ?k21 ?a22 ?l22 ?c22 ?k22 ?aC ?am1 ?im1 ?lm1 ?cm1 ?km1 ?am2 ?im2 ?lm2 ?cm2 ?km2 ?am3 ?im3 ?lm3 ?cm3 ?km3 ?am4 ?im4 ?lm4 ?cm4 ?km4 ?pg ?hd ?po ?sa ?mk ?kc ?nD ?nR ?ha ?hn ?htk ?hm ?me ?t0 ?u0 ?t1 ?u1 ?t2 ?u2 ?t3 ?u3 ?t4 ?u4 ?t5 ?u5 ?t6 ?u6 ?z0 ?z1 ?z2 ?z3 ?z4 ?z5 ?z6 ?z7 ?z8 ?z9 ?z10 ?z11 ?z12 ?z13 ?z14 ?z15 ?g0x ?g1x ?g2x
    (case a1 => k_is)
    (case l1 => k_is)
    (case c1 => k_is)
    (case k1 => k_is)
    (case a2 => k_is)
    (case l2 => k_is)
    (case c2 => k_is)
    (case k2 => k_is)
    (case a3 => k_is)
    (case l3 => k_is)
    (case c3 => k_is)
    (case k3 => k_is)
    (case a4 => k_is)
    (case l4 => k_is)
    (case c4 => k_is)
    (case k4 => k_is)
    (case a5 => k_is)
    (case l5 => k_is)
    (case c5 => k_is)
    (case k5 => k_is)
    (case a6 => k_is)
    (case l6 => k_is)
    (case c6 => k_is)
    (case k6 => k_is)
    (case a7 => k_is)
    (case l7 => k_is)
    (case c7 => k_is)
    (case k7 => k_is)
    (case a8 => k_is)
    (case l8 => k_is)
    (case c8 => k_is)
    (case k8 => k_is)
    (case a9 => k_is)
    (case l9 => k_is)
    (case c9 => k_is)
    (case k9 => k_is)
    (case a10 => k_is)
    (case l10 => k_is)
    (case c10 => k_is)
    (case k10 => k_is)
    (case a11 => k_is)
    (case l11 => k_is)
    (case c11 => k_is)
    (case k11 => k_is)
    (case a12 => k_is)
    (case l12 => k_is)
    (case c12 => k_is)
    (case k12 => k_is)
    (case a13 => k_is)
    (case l13 => k_is)
    (case c13 => k_is)
    (case k13 => k_is)
    (case a14 => k_is)
    (case l14 => k_is)
    (case c14 => k_is)
    (case k14 => k_is)
    (case a15 => k_is)
    (case l15 => k_is)
    (case c15 => k_is)
    (case k15 => k_is)
    (case a16 => k_is)
    (case l16 => k_is)
    (case c16 => k_is)
    (case k16 => k_is)
    (case a17 => k_is)
    (case l17 => k_is)
    (case c17 => k_is)
    (case k17 => k_is)
    (case a18 => k_is)
    (case l18 => k_is)
    (case c18 => k_is)
    (case k18 => k_is)
    (case a19 => k_is)
    (case l19 => k_is)
    (case c19 => k_is)
    (case k19 => k_is)
    (case a20 => k_is)
    (case l20 => k_is)
    (case c20 => k_is)
    (case k20 => k_is)
    (case a21 => k_is)
    (case l21 => k_is)
    (case c21 => k_is)
    (case k21 => k_is)
    (case a22 => k_is)
    (case l22 => k_is)
    (case c22 => k_is)
    (case k22 => k_is)
    (case aC => k_is)
    (case am1 => k_is)
    (case im1 => k_is)
    (case lm1 => k_is)
    (case cm1 => k_is)
    (case km1 => k_is)
    (case am2 => k_is)
    (case im2 => k_is)
    (case lm2 => k_is)
    (case cm2 => k_is)
    (case km2 => k_is)
    (case am3 => k_is)
    (case im3 => k_is)
    (case lm3 => k_is)
    (case cm3 => k_is)
    (case km3 => k_is)
    (case am4 => k_is)
    (case im4 => k_is)
    (case lm4 => k_is)
    (case cm4 => k_is)
    (case km4 => k_is)
    (case pg => k_is)
    (case hd => k_is)
    (case po => k_is)
    (case sa => k_is)
    (case mk => k_is)
    (case kc => k_is)
    (case nD => k_is)
    (case nR => k_is)
    (case ha => k_is)
    (case hn => k_is)
    (case htk => k_is)
    (case hm => k_is)
    (case me => kit_is)
    (case t0 => kit_is)
    (case u0 => k_is)
    (case t1 => kit_is)
    (case u1 => k_is)
    (case t2 => kit_is)
    (case u2 => k_is)
    (case t3 => kit_is)
    (case u3 => k_is)
    (case t4 => kit_is)
    (case u4 => k_is)
    (case t5 => kit_is)
    (case u5 => k_is)
    (case t6 => kit_is)
    (case u6 => k_is)
    (case z0 => k_is)
    (case z1 => k_is)
    (case z2 => k_is)
    (case z3 => k_is)
    (case z4 => k_is)
    (case z5 => k_is)
    (case z6 => k_is)
    (case z7 => k_is)
    (case z8 => k_is)
    (case z9 => k_is)
    (case z10 => k_is)
    (case z11 => k_is)
    (case z12 => k_is)
    (case z13 => k_is)
    (case z14 => k_is)
    (case z15 => k_is)
    (case g0x => k_is)
    (case g1x => k_is)
    (case g2x => k_is)
