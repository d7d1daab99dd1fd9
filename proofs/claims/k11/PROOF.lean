import PyProof.Rows.All
import Wide.All
import OpenK.AllK
import Wide.FinOn
import HandS.ForMost
import HandS.IsInst
import HandS.OwnEq
import HandS.Walk
import HandS.Codes
import HandS.RaiseMore
import HandS.Lambda
import HandS.Style
import HandS.NoneIn
import HandS.Rev
import HandS.TupAny
import PyProof.ReprRoads
import HandS.Conv
import HandS.Strs
import HandS.SetFor
import HandS.TupLe
import HandS.More
import HandS.SortKw
import HandS.ExcInit
import HandS.ExcField
import HandS.ForExc
import PyProof.FitsInt
import HandS.FltList
import KE.DataMinKey
import HandS.Deep
import PySem.Challenge.RW_eachworkread_k11_chains_and_closed_sets
set_option Elab.async false
set_option linter.all false
set_option maxRecDepth 100000
namespace Ew
open PySem PySem.Spec PyProof.Rows L2
/-- no table of code objects -/
def NT : HO → Prop
  | .tbl _ => False
  | _ => True
/-- the lambda's name; the table at p tells of its code objects alone -/
abbrev qLam : Str := "greatest_lack.<locals>.<lambda>"
def TabQ (H : Hp) (p : Addr) (_ : Str) : Prop := LamX.TabS H p qLam
/-- all that was tracked is as it was, but the tables: they tell what they told of -/
structure Same (H H' : Hp) : Prop where
  go : ∀ (b : Addr) (o : HO), H b = some o → NT o → H' b = some o
  un : ∀ b : Addr, H' b = none → H b = none
  tab : ∀ (p : Addr) (q : Str), TabQ H p q → TabQ H' p q
theorem Same.app {H H' : Hp} (s : Same H H') (b : Addr) (o : HO) (e : H b = some o) (h : NT o := by first | trivial | assumption) : H' b = some o := s.go b o e h
instance {H H' : Hp} : CoeFun (Same H H') fun _ => ∀ (b : Addr) (o : HO), H b = some o → (h : NT o := by first | trivial | assumption) → H' b = some o := ⟨@Same.app H H'⟩
theorem Same.of {H H' : Hp} (e : ∀ b o, H b = some o → H' b = some o) : Same H H' := by
  refine ⟨fun b o h _ => e b o h, fun b n => ?_, fun _ _ t => LamX.TabS.ext t e⟩
  cases q : H b with
  | none => rfl
  | some o => rw [e b o q] at n; cases n
theorem Same.refl (H : Hp) : Same H H := .of fun _ _ h => h
theorem Same.trans {H H1 H2 : Hp} (a : Same H H1) (b : Same H1 H2) : Same H H2 := ⟨fun c o h n => b.go c o (a.go c o h n) n, fun c n => a.un c (b.un c n), fun p q t => b.tab p q (a.tab p q t)⟩
theorem Same.free {H H' : Hp} (e : Same H H') {l : Addr} (h : H' l = Option.none) : H l = Option.none := e.un l h
theorem Same.seq {K : PySem.W.Frag} {H H' : Hp} {a : Addr} {xs : List V} (e : Same H H') (h : SqL K H a xs) : SqL K H' a xs := by
  rcases h with (h | ⟨o, h⟩) | h
  · exact .inl (.inl (e _ _ h))
  · exact .inl (.inr ⟨o, e _ _ h⟩)
  · exact .inr h
/-- an object that is no table and no code object: it may be written -/
def OwnAt (H : Hp) (p : Addr) : Prop := ∃ u, H p = some u ∧ NT u ∧ ∀ q, u ≠ LamX.CodeO p q
theorem OwnAt.lst {H : Hp} {p : Addr} {xs : List V} (h : H p = some (.lst xs)) : OwnAt H p := ⟨_, h, trivial, fun q z => by unfold LamX.CodeO at z; cases z⟩
theorem OwnAt.dK {H : Hp} {p : Addr} {xs : List (Key × V)} (h : H p = some (.dK xs)) : OwnAt H p := ⟨_, h, trivial, fun q z => by unfold LamX.CodeO at z; cases z⟩
theorem OwnAt.ins {H : Hp} {p C dx : Addr} {fs : List (Str × V)} (h : H p = some (.ins C dx fs)) : OwnAt H p := ⟨_, h, trivial, fun q z => by unfold LamX.CodeO at z; cases z⟩
theorem OwnAt.tab {H1 : Hp} {p P : Addr} {o : HO} {q : Str} (hm : OwnAt H1 p) (t : TabQ H1 P q) : TabQ (upd H1 p o) P q := by
  obtain ⟨u, hu, hn, hc⟩ := hm
  obtain ⟨ps, h1, h2, h3⟩ := t
  have nP : P ≠ p := fun w => by rw [w, hu] at h1; cases h1; exact hn
  refine ⟨ps, by rw [upd_ne nP]; exact h1, h2, fun pos cv hcv => ?_⟩
  obtain ⟨c, e1, e2⟩ := h3 pos cv hcv
  exact ⟨c, e1, by rw [upd_ne (fun w => by rw [w, hu] at e2; exact hc _ (Option.some.inj e2))]; exact e2⟩
theorem sameOwn {H H' : Hp} {D : Addr} {o : HO} (s : Same H H') (n : H D = none) (hm : OwnAt H' D := by first | exact .lst (by assumption) | exact .dK (by assumption) | exact .ins (by assumption)) : Same H (upd H' D o) := ⟨fun b u e z => by
  rw [upd_ne (ne_of_none e n)]
  exact s.go _ _ e z, fun b z => by
    by_cases hb : b = D
    · rw [hb]; exact n
    · rw [upd_ne hb] at z
      exact s.un b z, fun P q t => hm.tab (s.tab P q t)⟩
theorem tab_back {H : Hp} {p P : Addr} {xs : List V} {q : Str} (t : TabQ (upd H p (.lst xs)) P q) : TabQ H P q := by
  obtain ⟨ps, h1, h2, h3⟩ := t
  have at_ : ∀ {b : Addr} {o : HO}, upd H p (.lst xs) b = some o → o ≠ .lst xs → H b = some o := fun {b o} e n => by
    by_cases hb : b = p
    · rw [hb, upd_same] at e
      exact absurd (Option.some.inj e).symm n
    · rw [upd_ne hb] at e
      exact e
  refine ⟨ps, at_ h1 (fun z => by cases z), h2, fun pos cv hcv => ?_⟩
  obtain ⟨c, e1, e2⟩ := h3 pos cv hcv
  exact ⟨c, e1, at_ e2 (fun z => by unfold LamX.CodeO at z; cases z)⟩
/-- the feed at f: two ints -/
def FeedAt (H : Hp) (f : Addr) : Prop := ∃ d s : Int, H f = some (.lst [.int d, .int s])
/-- all but the feed is as it was -/
structure Ext1 (f : Addr) (H H' : Hp) : Prop where
  go : ∀ (b : Addr) (o : HO), b ≠ f → H b = some o → (h : NT o := by first | trivial | assumption) → H' b = some o
  at_ : FeedAt H' f
  un : ∀ b : Addr, b ≠ f → H' b = none → H b = none
  tab : ∀ (p : Addr) (q : Str), TabQ H p q → TabQ H' p q
theorem tab_but {f : Addr} {H H' : Hp} (h : FeedAt H f) (e : ∀ b o, b ≠ f → H b = some o → H' b = some o) : ∀ (p : Addr) (q : Str), TabQ H p q → TabQ H' p q := fun p q t => by
  obtain ⟨d, s, z⟩ := h
  obtain ⟨ps, h1, h2, h3⟩ := t
  refine ⟨ps, e _ _ (fun w => by rw [w, z] at h1; cases h1) h1, h2, fun pos cv hc => ?_⟩
  obtain ⟨c, e1, e2⟩ := h3 pos cv hc
  exact ⟨c, e1, e _ _ (fun w => by rw [w, z] at e2; cases e2) e2⟩
theorem un_but {f : Addr} {H H' : Hp} (e : ∀ b o, b ≠ f → H b = some o → H' b = some o) : ∀ b : Addr, b ≠ f → H' b = none → H b = none := fun b hb n => by
  cases q : H b with
  | none => rfl
  | some o => rw [e b o hb q] at n; cases n
theorem Ext1.of {f : Addr} {H H' : Hp} (h : FeedAt H f) (e : ∀ b o, b ≠ f → H b = some o → H' b = some o) (h' : FeedAt H' f) : Ext1 f H H' := ⟨fun b o n z _ => e b o n z, h', un_but e, tab_but h e⟩
theorem Ext1.refl {f : Addr} {H : Hp} (h : FeedAt H f) : Ext1 f H H := .of h (fun _ _ _ e => e) h
theorem Ext1.trans {f : Addr} {H H1 H2 : Hp} (a : Ext1 f H H1) (b : Ext1 f H1 H2) : Ext1 f H H2 := ⟨fun c o n e z => b.1 c o n (a.1 c o n e z) z, b.2, fun c n z => a.un c n (b.un c n z), fun p q t => b.tab p q (a.tab p q t)⟩
theorem Ext1.feed {f : Addr} {H H' : Hp} (a : Ext1 f H H') : FeedAt H' f := a.2
theorem Ext1.put {f : Addr} {H : Hp} {d s : Int} (h : FeedAt H f) : Ext1 f H (upd H f (.lst [.int d, .int s])) := .of h (fun b o n e => by rw [upd_ne n]; exact e) ⟨d, s, upd_same⟩
theorem Ext1.new {f p : Addr} {H H1 : Hp} {o : HO} (a : Ext1 f H H1) (n : H1 p = none) : Ext1 f H (upd H1 p o) := by
  obtain ⟨d, s, e⟩ := a.2
  exact a.trans (.of a.2 (fun b u nb eb => by rw [upd_ne (ne_of_none eb n)]; exact eb) ⟨d, s, by rw [upd_ne (ne_of_none e n)]; exact e⟩)
/-- an object that was not there may be written -/
theorem Ext1.own {f p : Addr} {H H1 : Hp} {o : HO} (a : Ext1 f H H1) (n : H p = none) (nf : p ≠ f) (hm : OwnAt H1 p := by first | exact .lst (by assumption) | exact .dK (by assumption) | exact .ins (by assumption)) : Ext1 f H (upd H1 p o) := by
  obtain ⟨d, s, e⟩ := a.2
  refine ⟨fun b u nb eb z => ?_, ⟨d, s, by rw [upd_ne (Ne.symm nf)]; exact e⟩, fun b hb z => ?_, fun P q t => hm.tab (a.tab P q t)⟩
  · have : b ≠ p := fun z => by rw [z, n] at eb; cases eb
    rw [upd_ne this]
    exact a.1 b u nb eb z
  · by_cases hp : b = p
    · rw [hp, upd_same] at z; cases z
    · rw [upd_ne hp] at z; exact a.un b hb z
theorem Ext1.same {f : Addr} {H H' : Hp} (h : FeedAt H f) (s : Same H H') : Ext1 f H H' := ⟨fun b o _ e z => s.go b o e z, let ⟨d, t, e⟩ := h; ⟨d, t, s _ _ e⟩, fun b _ n => s.un b n, s.tab⟩
theorem Ext1.free {f p : Addr} {H H' : Hp} (a : Ext1 f H H') (h : H' p = none) : H p = none := by
  by_cases e : p = f
  · subst e
    obtain ⟨d, s, z⟩ := a.2
    rw [z] at h; cases h
  · exact a.un p e h
theorem FeedAt.ne {H : Hp} {f p : Addr} (h : FeedAt H f) (n : H p = none) : p ≠ f := fun e => by
  obtain ⟨d, s, z⟩ := h
  rw [e, z] at n; cases n
section
variable {K : PySem.W.Frag} {f : Addr} {H H' : Hp}
theorem Ext1.sqT {t : Addr} {xs : List V} (a : Ext1 f H H') (hf : FeedAt H f) (h : SqT K H t xs) : SqT K H' t xs := by
  obtain ⟨d, s, z⟩ := hf
  rcases h with (h | ⟨o, h⟩) | h
  · exact .inl (.inl (a.1 _ _ (fun e => by rw [e, z] at h; cases h) h))
  · exact .inl (.inr ⟨o, a.1 _ _ (fun e => by rw [e, z] at h; cases h) h⟩)
  · exact .inr h
theorem Ext1.sqL {t : Addr} {xs : List V} (a : Ext1 f H H') (nf : t ≠ f) (h : SqL K H t xs) : SqL K H' t xs := by
  rcases h with (h | ⟨o, h⟩) | h
  · exact .inl (.inl (a.1 _ _ nf h))
  · exact .inl (.inr ⟨o, a.1 _ _ nf h⟩)
  · exact .inr h
theorem sameT {t : Addr} {xs : List V} (e : Same H H') (h : SqT K H t xs) : SqT K H' t xs := by
  rcases h with (h | ⟨o, h⟩) | h
  · exact .inl (.inl (e _ _ h))
  · exact .inl (.inr ⟨o, e _ _ h⟩)
  · exact .inr h
end
theorem sameU {H : Hp} {p : Addr} {o : HO} (h : H p = none) : Same H (upd H p o) := .of fun b x e => by
  rw [upd_ne (ne_of_none e h)]
  exact e
/-- what is true of a set, a row: ascending, of numbers from 0 below n -/
def Asc (n : Int) (r : List Int) : Prop := r.Pairwise (· < ·) ∧ ∀ x ∈ r, 0 ≤ x ∧ x < n
/-- a tuple of ints -/
def RowT (K : PySem.W.Frag) (H : Hp) (v : V) (r : List Int) : Prop := ∃ t, v = .ref t ∧ SqT K H t (r.map V.int)
/-- a reader: limit, may -/
def RdT (K : PySem.W.Frag) (H : Hp) (v : V) (r : Int × List Int) : Prop := ∃ t m, v = .ref t ∧ SqT K H t [.int r.1, .ref m] ∧ SqT K H m (r.2.map V.int)
def RdOk (n : Int) (r : Int × List Int) : Prop := 0 ≤ r.1 ∧ r.1 ≤ 6 ∧ Asc n r.2
def RowOk (r : Int × List Int) (w : List Int) : Prop := w.Pairwise (· < ·) ∧ (∀ x ∈ w, x ∈ r.2) ∧ (w.length : Int) ≤ r.1
def RdL (K : PySem.W.Frag) (H : Hp) (a : Addr) (rs : List (Int × List Int)) : Prop := ∃ vs, SqL K H a vs ∧ Paired (RdT K H) vs rs
def RowL (K : PySem.W.Frag) (H : Hp) (a : Addr) (ws : List (List Int)) : Prop := ∃ vs, SqL K H a vs ∧ Paired (RowT K H) vs ws
section
variable {K : PySem.W.Frag} {f : Addr} {H H' : Hp}
theorem RowT.ext {v : V} {r : List Int} (a : Ext1 f H H') (hf : FeedAt H f) (h : RowT K H v r) : RowT K H' v r := let ⟨t, e, q⟩ := h; ⟨t, e, a.sqT hf q⟩
theorem RdT.ext {v : V} {r : Int × List Int} (a : Ext1 f H H') (hf : FeedAt H f) (h : RdT K H v r) : RdT K H' v r := let ⟨t, m, e, q, q2⟩ := h; ⟨t, m, e, a.sqT hf q, a.sqT hf q2⟩
theorem RowT.same {v : V} {r : List Int} (a : Same H H') (h : RowT K H v r) : RowT K H' v r := let ⟨t, e, q⟩ := h; ⟨t, e, sameT a q⟩
theorem RdT.same {v : V} {r : Int × List Int} (a : Same H H') (h : RdT K H v r) : RdT K H' v r := let ⟨t, m, e, q, q2⟩ := h; ⟨t, m, e, sameT a q, sameT a q2⟩
theorem RdL.ext {p : Addr} {rs : List (Int × List Int)} (a : Ext1 f H H') (hf : FeedAt H f) (nf : p ≠ f) (h : RdL K H p rs) : RdL K H' p rs := let ⟨vs, q, r⟩ := h; ⟨vs, a.sqL nf q, L2.Paired.mapP r fun _ _ z => z.ext a hf⟩
theorem RowL.ext {p : Addr} {rs : List (List Int)} (a : Ext1 f H H') (hf : FeedAt H f) (nf : p ≠ f) (h : RowL K H p rs) : RowL K H' p rs := let ⟨vs, q, r⟩ := h; ⟨vs, a.sqL nf q, L2.Paired.mapP r fun _ _ z => z.ext a hf⟩
theorem RdL.same {p : Addr} {rs : List (Int × List Int)} (a : Same H H') (h : RdL K H p rs) : RdL K H' p rs := let ⟨vs, q, r⟩ := h; ⟨vs, a.seq q, L2.Paired.mapP r fun _ _ z => z.same a⟩
theorem RowL.same {p : Addr} {rs : List (List Int)} (a : Same H H') (h : RowL K H p rs) : RowL K H' p rs := let ⟨vs, q, r⟩ := h; ⟨vs, a.seq q, L2.Paired.mapP r fun _ _ z => z.same a⟩
end
section
variable {K : PySem.W.Frag} {H : Hp} {D : Addr} {xs : List V} {o : HO}
/-- a list is written: tuples stand -/
theorem sqT_upd {t : Addr} {ys : List V} (e : H D = some (.lst xs)) (h : SqT K H t ys) : SqT K (upd H D o) t ys := by
  rcases h with (h | ⟨o', h⟩) | h
  · exact .inl (.inl (by rw [upd_ne (fun z => by rw [z, e] at h; cases h)]; exact h))
  · exact .inl (.inr ⟨o', by rw [upd_ne (fun z => by rw [z, e] at h; cases h)]; exact h⟩)
  · exact .inr h
theorem RowT.upd {v : V} {r : List Int} (e : H D = some (.lst xs)) (h : RowT K H v r) : RowT K (upd H D o) v r := let ⟨t, a, q⟩ := h; ⟨t, a, sqT_upd e q⟩
theorem RdT.upd {v : V} {r : Int × List Int} (e : H D = some (.lst xs)) (h : RdT K H v r) : RdT K (upd H D o) v r := let ⟨t, m, a, q, q2⟩ := h; ⟨t, m, a, sqT_upd e q, sqT_upd e q2⟩
end
theorem Paired.at1 {α β : Type} {R : α → β → Prop} : ∀ {xs : List α} {ys : List β} {i : Nat} {x : α}, Paired R xs ys → xs[i]? = some x → ∃ y, ys[i]? = some y ∧ R x y
  | _, _, _, _, .nil, e => by simp at e
  | _, _, 0, _, .cons r _, e => by simp at e; subst e; exact ⟨_, rfl, r⟩
  | _, _, i + 1, x, .cons _ t, e => by
    obtain ⟨u, h1, h2⟩ := Paired.at1 (i := i) (x := x) t (by simpa using e)
    exact ⟨u, by simpa using h1, h2⟩
theorem Paired.at2 {α β : Type} {R : α → β → Prop} : ∀ {xs : List α} {ys : List β} {i : Nat} {y : β}, Paired R xs ys → ys[i]? = some y → ∃ x, xs[i]? = some x ∧ R x y
  | _, _, _, _, .nil, e => by simp at e
  | _, _, 0, _, .cons r _, e => by simp at e; subst e; exact ⟨_, rfl, r⟩
  | _, _, i + 1, x, .cons _ t, e => by
    obtain ⟨u, h1, h2⟩ := Paired.at2 (i := i) (y := x) t (by simpa using e)
    exact ⟨u, by simpa using h1, h2⟩
theorem Paired.snoc {α β : Type} {R : α → β → Prop} : ∀ {xs : List α} {ys : List β} {x : α} {y : β}, Paired R xs ys → R x y → Paired R (xs ++ [x]) (ys ++ [y])
  | _, _, _, _, .nil, h => .cons h .nil
  | _, _, _, _, .cons r t, h => .cons r (Paired.snoc t h)
structure Bi (mg : Str → Option Value) : Prop where
  len : mg "len" = none
  range : mg "range" = none
  list : mg "list" = none
  tuple : mg "tuple" = none
  int : mg "int" = none
  bool : mg "bool" = none
  abs : mg "abs" = none
  max : mg "max" = none
  min : mg "min" = none
  sorted : mg "sorted" = none
  enumerate : mg "enumerate" = none
  isinstance : mg "isinstance" = none
  all : mg "all" = none
  sum : mg "sum" = none
  zip : mg "zip" = none
  repr : mg "repr" = none
theorem take_more {α : Type} : ∀ {l : List α} {i : Nat} {x : α}, l[i]? = some x → l.take (i + 1) = l.take i ++ [x]
  | [], i, x, h => by simp at h
  | a :: l, 0, x, h => by
    have e : a = x := Option.some.inj h
    subst e
    rfl
  | a :: l, i + 1, x, h => by
    have ih := take_more (l := l) (i := i) (x := x) h
    show a :: l.take (i + 1) = a :: l.take i ++ [x]
    rw [ih]
    rfl
theorem szL {n : Nat} (h : n ≤ 1000000) : n ≤ sizeLine := Nat.le_trans h (by decide)
theorem szl {n : Nat} (h : n ≤ 1000000) : n < sizeLine := Nat.lt_of_le_of_lt h (by decide)
end Ew
namespace Ew
open PySem PySem.Spec PyProof.Rows L2
section
variable {α : Type} (g : α → PyData)
theorem layAll_map (h : ∀ x, PyData.canLay0 (g x) = true) : ∀ l : List α, PyData.canLayAll0 (l.map g) = true
  | [] => rfl
  | x :: l => by
    show (PyData.canLay0 (g x) && PyData.canLayAll0 (l.map g)) = true
    rw [h x, layAll_map h l]
    rfl
theorem depAll_map {n : Nat} (h : ∀ x, PyData.depth (g x) ≤ n) : ∀ l : List α, PyData.depthAll (l.map g) ≤ n
  | [] => Nat.zero_le _
  | x :: l => by
    show max (PyData.depth (g x)) (PyData.depthAll (l.map g)) ≤ n
    exact Nat.max_le.mpr ⟨h x, depAll_map h l⟩
theorem eqvAll_inj [DecidableEq α] (h : ∀ x y, PyData.eqv (g x) (g y) = decide (x = y)) : ∀ xs ys : List α, PyData.eqvAll (xs.map g) (ys.map g) = decide (xs = ys)
  | [], [] => by simp [PyData.eqvAll]
  | [], _ :: _ => by simp [PyData.eqvAll]
  | _ :: _, [] => by simp [PyData.eqvAll]
  | x :: xs, y :: ys => by
    show (PyData.eqv (g x) (g y) && PyData.eqvAll (xs.map g) (ys.map g)) = _
    rw [h x y, eqvAll_inj h xs ys]
    by_cases e1 : x = y
    · subst e1
      by_cases e2 : xs = ys
      · subst e2; simp
      · simp [e2]
    · simp [e1]
end
def dI (l : List Int) : PyData := .list (l.map .int)
def dT (l : List Int) : PyData := .tuple (l.map .int)
def dR (r : Int × List Int) : PyData := .tuple [.int r.1, dT r.2]
def dRs (rs : List (Int × List Int)) : PyData := .list (rs.map dR)
def dWs (ws : List (List Int)) : PyData := .list (ws.map dT)
theorem eqv_int (x y : Int) : PyData.eqv (.int x) (.int y) = decide (x = y) := by
  simp [PyData.eqv]
  by_cases h : x = y <;> simp [h]
theorem eqv_dT (x y : List Int) : PyData.eqv (dT x) (dT y) = decide (x = y) := by
  show PyData.eqvAll (x.map .int) (y.map .int) = _
  exact eqvAll_inj _ eqv_int x y
theorem eqv_dI (x y : List Int) : PyData.eqv (dI x) (dI y) = decide (x = y) := by
  show PyData.eqvAll (x.map .int) (y.map .int) = _
  exact eqvAll_inj _ eqv_int x y
theorem eqv_dR (x y : Int × List Int) : PyData.eqv (dR x) (dR y) = decide (x = y) := by
  show PyData.eqvAll [.int x.1, dT x.2] [.int y.1, dT y.2] = _
  show (PyData.eqv (.int x.1) (.int y.1) && (PyData.eqv (dT x.2) (dT y.2) && true)) = _
  rw [eqv_int, eqv_dT]
  obtain ⟨a, b⟩ := x
  obtain ⟨c, d⟩ := y
  by_cases h1 : a = c <;> by_cases h2 : b = d <;> simp [h1, h2]
theorem eqv_dRs (x y : List (Int × List Int)) : PyData.eqv (dRs x) (dRs y) = decide (x = y) := by
  show PyData.eqvAll (x.map dR) (y.map dR) = _
  exact eqvAll_inj _ eqv_dR x y
theorem lay_dT (l : List Int) : PyData.canLay0 (dT l) = true := layAll_map PyData.int (fun _ => rfl) l
theorem dep_dT (l : List Int) : PyData.depth (dT l) ≤ 1 := Nat.succ_le_succ (depAll_map PyData.int (n := 0) (fun _ => Nat.le_refl _) l)
theorem lay_dR (r : Int × List Int) : PyData.canLay0 (dR r) = true := by
  show (true && (PyData.canLay0 (dT r.2) && true)) = true
  rw [lay_dT]
  rfl
theorem dep_dR (r : Int × List Int) : PyData.depth (dR r) ≤ 2 := by
  show max 0 (max (PyData.depth (dT r.2)) 0) + 1 ≤ 2
  have := dep_dT r.2
  omega
theorem shp {d : PyData} {n : Nat} (h1 : PyData.canLay0 d = true) (h2 : PyData.depth d ≤ n) (h3 : n ≤ 64) : SeqAt.shaped d = true := by
  unfold SeqAt.shaped
  rw [h1, decide_eq_true (Nat.le_trans h2 h3)]
  rfl
theorem shp_dI (l : List Int) : SeqAt.shaped (dI l) = true := shp (layAll_map PyData.int (fun _ => rfl) l) (Nat.succ_le_succ (depAll_map PyData.int (n := 0) (fun _ => Nat.le_refl _) l)) (n := 1) (by decide)
theorem shp_dRs (rs : List (Int × List Int)) : SeqAt.shaped (dRs rs) = true := shp (layAll_map dR lay_dR rs) (Nat.succ_le_succ (depAll_map dR dep_dR rs)) (n := 3) (by decide)
section
variable {K : PySem.W.Frag} {H : Hp}
theorem dpAll_ints : ∀ l : List Int, DpAll K H (l.map V.int) (l.map PyData.int)
  | [] => .nil
  | _ :: l => .cons (.int _) (dpAll_ints l)
theorem dpAll_map {α : Type} {R : V → α → Prop} {g : α → PyData} (h : ∀ v a, R v a → Dp K H v (g a)) : ∀ {vs : List V} {as : List α}, Paired R vs as → DpAll K H vs (as.map g)
  | _, _, .nil => .nil
  | _, _, .cons r t => .cons (h _ _ r) (dpAll_map h t)
theorem dp_dI {a : Addr} {l : List Int} (h : SqL K H a (l.map V.int)) : Dp K H (.ref a) (dI l) := .lst h (dpAll_ints l)
theorem dp_dT {v : V} {l : List Int} (h : RowT K H v l) : Dp K H v (dT l) := let ⟨_, e, q⟩ := h; e ▸ .tup q (dpAll_ints l)
theorem dp_dR {v : V} {r : Int × List Int} (h : RdT K H v r) : Dp K H v (dR r) := let ⟨_, _, e, q, q2⟩ := h; e ▸ .tup q (.cons (.int _) (.cons (dp_dT ⟨_, rfl, q2⟩) .nil))
theorem dp_dRs {a : Addr} {us : List V} {rs : List (Int × List Int)} (h : SqL K H a us) (p : Paired (RdT K H) us rs) : Dp K H (.ref a) (dRs rs) := .lst h (dpAll_map (g := dR) (fun _ _ z => dp_dR z) p)
end
section
variable {prog : Program} {w : World} {A : Around} {E : Value → Shared → Prop}
/-- the type of a value, looked at -/
theorem looksT {X : Cx} {pins : List (Addr × Obj)} {σ : L2.St} {H : Hp} {s : Shared} {x : V} {u t : Value} (I : Inv X pins σ H s) (rx : RelV x u) (ty : TyX X.K H x t) : PySem.W.Looks (model X.prog X.w) s.heap (typeOf u) t := by
  have one : ∀ (a : Addr) (o : Obj), s.heap.get? a = some o → o.cls = t → PySem.W.Looks (model X.prog X.w) s.heap (typeOf (.ref a)) t := fun a o ho hc A Q E s' k q => wpAny_typeOf_ref (k _ _ ho) (by rw [hc]; exact q)
  cases ty with
  | base b =>
    cases b with
    | non => cases (show u = Value.none from rx); exact fun A Q E s' k q => wpAny_pure q
    | bl y => cases (show u = Value.bool y from rx); exact fun A Q E s' k q => wpAny_pure q
    | int i => obtain ⟨t, q⟩ := (show ∃ t, u = Value.int i t from rx); cases q; exact fun A Q E s' k q => wpAny_pure q
    | str y => obtain ⟨t, q⟩ := (show ∃ t, u = Value.str y t from rx); cases q; exact fun A Q E s' k q => wpAny_pure q
    | flt y => obtain ⟨t, q⟩ := (show ∃ t, u = Value.float y t from rx); cases q; exact fun A Q E s' k q => wpAny_pure q
    | @lst a xs ea =>
      cases (show u = Value.ref a from rx)
      obtain ⟨_, _, n, _, h1⟩ := (show ObjOk X.prog X.w H s.heap a (.lst xs) from I.hok a _ ea)
      exact one _ _ h1 rfl
    | @frz a ob xs ea =>
      cases (show u = Value.ref a from rx)
      obtain ⟨_, _, _, n, _, h1⟩ := (show ObjOk X.prog X.w H s.heap a (.frz ob (.lst xs)) from I.hok a _ ea)
      exact one _ _ h1 rfl
    | @tup a xs ea =>
      cases (show u = Value.ref a from rx)
      obtain ⟨_, _, _, o, h1, h2, _⟩ := (show ObjOk X.prog X.w H s.heap a (.tup xs) from I.hok a _ ea)
      exact one _ _ h1 h2
    | @dK a kvs ea =>
      cases (show u = Value.ref a from rx)
      obtain ⟨_, _, vs, _, o, es, ep, h1, h2, _⟩ := (show ObjOk X.prog X.w H s.heap a (.dK kvs) from I.hok a _ ea)
      exact one _ _ h1 h2.1
    | @dT a kvs ea =>
      cases (show u = Value.ref a from rx)
      obtain ⟨_, _, xs, _, o, es, ep, h1, h2, _⟩ := (show ObjOk X.prog X.w H s.heap a (.dT kvs) from I.hok a _ ea)
      exact one _ _ h1 h2.1
    | @ins a C dx fs ea cl ha hn htk hm =>
      cases (show u = Value.ref a from rx)
      obtain ⟨mA, O, _⟩ := ins_get I.hok ea
      obtain ⟨od, J, _⟩ := O.look
      exact J.type
  | byt y => obtain ⟨t, q⟩ := (show ∃ t, u = Value.bytes y t from rx); cases q; exact fun A Q E s' k q => wpAny_pure q
  | @set a S n ea =>
    cases (show u = Value.ref a from rx)
    obtain ⟨o, _, _, _, e, ex, _⟩ := I.hok a _ ea
    exact one _ _ e ex.1
  | @kList a o e c =>
    cases (show u = Value.ref a from rx)
    exact one _ _ (I.kIn a o e) c
  | @kTuple a o e c =>
    cases (show u = Value.ref a from rx)
    exact one _ _ (I.kIn a o e) c
  | @kDict a o e c =>
    cases (show u = Value.ref a from rx)
    exact one _ _ (I.kIn a o e) c
  | @fTuple a ob xs ea =>
    cases (show u = Value.ref a from rx)
    obtain ⟨_, _, _, _, o, h1, h2, _⟩ := (show ObjOk X.prog X.w H s.heap a (.frz ob (.tup xs)) from I.hok a _ ea)
    exact one _ _ h1 h2
  | @fDict a ob kvs ea =>
    cases (show u = Value.ref a from rx)
    obtain ⟨_, _, _, vs, _, o, es, ep, h1, h2, _⟩ := (show ObjOk X.prog X.w H s.heap a (.frz ob (.dK kvs)) from I.hok a _ ea)
    exact one _ _ h1 h2.1
end
/-- x == y, x an instance of the class at C with an own __eq__ whose promise is sp; y of a type that has no say -/
def rOwnEq (K : PySem.W.Frag) (C : Addr) (sp : Sp) (neg : Bool) : R2 := fun x y H Q => ∃ a dx fs t, x = .ref a ∧ H a = some (.ins C dx fs) ∧ TyX K H y t ∧ PySem.W.notFirst K C t = true ∧
  sp [x, y] H (fun v H' => ∃ b, v = .bl b ∧ Q (.bl (if neg then !b else b)) H') E0
section
variable {X : Cx} {n : Nat} {C f : Addr} {fd : FuncData} {ps : List Str} {sp : Sp}
theorem op_eqOwn (F : FnOk X.prog X.w X.K X.mg X.base CX0 n f fd ps sp) (hr : Room n X.A) (hs : PySem.W.findIn X.K (.ref C) "__eq__" = some (some (.ref f))) (hf : PySem.W.isFn X.K (.ref f) = true) (hb : Binds X.K fd ps []) :
    OpR X (compareOp .Eq) (rOwnEq X.K C sp false) := by
  intro pins s σ H x y v u Q I rx ry hq
  obtain ⟨a, dx, fs, t, rfl, ha, ty, hn, hsp⟩ := hq
  cases rx
  obtain ⟨mA, J, _⟩ := ins_get I.hok ha
  obtain ⟨od, J, _⟩ := J.look
  obtain ⟨m, hF⟩ := I.fr
  show wpAny (model X.prog X.w) X.A (richCompare .Eq (.ref a) u) (EP X pins σ Q) X.xe s
  refine PySem.W.cmp_K (op := .Eq) (tb := t) hr.units0 hF I.ok.mod.kin J (looksT I ry ty) hn hs hf ?_
  refine wpAny_mono (run_fn (vs := [V.ref a, y]) (us := [Value.ref a, u]) F hr hb .nil pass0 I (.cons rfl (.cons ry .nil)) hsp) (fun r s' hq => ?_) fun _ _ h => h
  obtain ⟨z, H', I', rz, b, ez, q⟩ := hq
  subst ez
  cases rz
  exact ⟨.bl b, H', I', rfl, q⟩
end
end Ew
namespace Ew
open PySem PySem.Spec PyProof.Rows L2
section
variable {X : Cx} {n : Nat} {C f : Addr} {fd : FuncData} {ps : List Str} {sp : Sp}
/-- the callee runs below a builtin -/
theorem run_in1 {pins : List (Addr × Obj)} {σ : L2.St} {H : Hp} {s : Shared} {Q : VK} {us : List Value} {vs : List V} (F : FnOk X.prog X.w X.K X.mg X.base CX0 n f fd ps sp) (hr : Room (n + 1) X.A) (hb : Binds X.K fd ps [])
    (I : Inv X pins σ H s) (r : Vals vs us) (h : sp vs H Q E0) : wpAny (model X.prog X.w) X.A.in1 (call (.ref f) us) (EP X pins σ Q) X.xe s := by
  have hl : us.length = ps.length := by rw [← r.length]; exact F.len _ _ _ _ h
  refine wpAny_call (codeAny_mono (F.run X.A.in1 X.stack s H ⟨us, []⟩ us vs Q E0 hr.in1 I.env0.in1 (by
    have := hb s us I.kIn (by simpa using hl)
    simpa using this) r h) fun r s' hq => ?_)
  cases r with
  | error e => exact False.elim hq
  | ok fl =>
    cases fl with
    | ret u => exact I.after hq
    | next => exact False.elim hq
    | brk => exact False.elim hq
    | cont => exact False.elim hq
/-- len(x), x an instance of the class at C with an own __len__ -/
theorem call_lenOwn (F : FnOk X.prog X.w X.K X.mg X.base CX0 n f fd ps sp) (hr : Room (n + 1) X.A) (hs : PySem.W.findIn X.K (.ref C) "__len__" = some (some (.ref f))) (hf : PySem.W.isFn X.K (.ref f) = true) (hb : Binds X.K fd ps []) :
    CallR X (.builtin "len") (fun xs H Q => ∃ a dx fs, xs = [.ref a] ∧ H a = some (.ins C dx fs) ∧ sp [.ref a] H (fun v H' => ∃ k : Int, v = .int k ∧ (0 ≤ k ∧ k < 2 ^ 63) ∧ Q (.int k) H') E0) := by
  intro pins s σ H xs us Q I r hq
  obtain ⟨a, dx, fs, rfl, ha, hsp⟩ := hq
  cases r with
  | cons r1 r2 =>
    cases r2
    cases r1
    obtain ⟨mA, J, _⟩ := ins_get I.hok ha
    obtain ⟨od, J, _⟩ := J.look
    obtain ⟨m, hF⟩ := I.fr
    refine PySem.W.len_K hF I.ok.mod.kin J hs hf ?_
    refine wpAny_mono (run_in1 (vs := [V.ref a]) (us := [Value.ref a]) F hr hb I (.cons rfl .nil) hsp) (fun r s' hq => ?_) fun _ _ h => h
    obtain ⟨z, H', I', rz, k, ez, hk, q⟩ := hq
    subst ez
    obtain ⟨t, rfl⟩ := rz
    exact ⟨hk, .int k, H', I'.tok _, ⟨_, rfl⟩, q⟩
end
end Ew
namespace Ew
open PySem PySem.Spec PyProof.Rows L2
section
variable {X : Cx}
theorem cut_all {xs : List V} {lo hi : Option Int} (h : HT.sIx xs.length 0 lo = 0 ∧ HT.sIx xs.length xs.length hi = xs.length) : cutV xs lo hi = xs := by
  unfold cutV
  rw [h.1, h.2, List.drop_zero, Nat.sub_zero, List.take_length]
/-- t[lo:hi], the whole too -/
def rSl1 (K : PySem.W.Frag) : V → Option Int → Option Int → Hp → VK → Prop := fun x lo hi H Q => ∃ a xs, x = .ref a ∧ SqT K H a xs ∧ ∀ p H', Same H H' → SqT K H' p (cutV xs lo hi) → Q (.ref p) H'
theorem sl_tup1 : SlR X (rSl1 X.K) := by
  intro pins s σ H x v vl vu lo hi sl Q I rx hs pl pu h
  obtain ⟨a, xs, rfl, hx, q⟩ := h
  exact sl_tupA pins s σ H _ v vl vu lo hi sl Q I rx hs pl pu ⟨a, xs, rfl, hx, fun hw => q a H (Same.refl H) (by rw [cut_all hw]; exact hx), fun _ p np => q p _ (sameU np) (.inl (.inl upd_same))⟩
end
theorem cut_from (xs : List V) (k : Nat) : cutV xs (some (k : Int)) none = xs.drop k := by
  unfold cutV
  rw [HT.sIx_nat, HT.sIx_none]
  rcases Nat.le_total k xs.length with h | h
  · rw [Nat.min_eq_left h, List.take_of_length_le (by rw [List.length_drop]; omega)]
  · rw [Nat.min_eq_right h, List.drop_of_length_le h, Nat.sub_self]
    simp
theorem Paired.drop {α β : Type} {R : α → β → Prop} : ∀ {xs : List α} {ys : List β} (n : Nat), Paired R xs ys → Paired R (xs.drop n) (ys.drop n)
  | _, _, 0, h => h
  | _, _, _ + 1, .nil => .nil
  | _, _, n + 1, .cons _ t => Paired.drop n t
theorem Paired.app {α β : Type} {R : α → β → Prop} : ∀ {xs : List α} {ys : List β} {us : List α} {ws : List β}, Paired R xs ys → Paired R us ws → Paired R (xs ++ us) (ys ++ ws)
  | _, _, _, _, .nil, h => h
  | _, _, _, _, .cons r t, h => .cons r (Paired.app t h)
theorem Paired.rev {α β : Type} {R : α → β → Prop} : ∀ {xs : List α} {ys : List β}, Paired R xs ys → Paired R xs.reverse ys.reverse
  | _, _, .nil => .nil
  | x :: xs, y :: ys, .cons r t => by
    rw [List.reverse_cons, List.reverse_cons]
    exact Paired.app (Paired.rev t) (.cons r .nil)
end Ew
namespace Ew
open PySem PySem.Spec PyProof.Rows L2
structure FnOkG (P : Program) (w : World) (K : PySem.W.Frag) (mg : Str → Option Value) (base : Heap) (k : Nat) (f : Addr) (fd : FuncData) (ps : List Str) (sp : Sp) : Prop where
  len : ∀ vs H Q E, sp vs H Q E → vs.length = ps.length
  run : ∀ (A : Around) (outer : List Env) (s : Shared) (H : Hp) (args : Args) (us : List Value) (vs : List V) (Q : VK) (E : XK), A.guards = some [] → Room k A → Env0 P w K mg base A outer s H → BindsTo s fd args (ps.zip us) → Vals vs us → sp vs H Q E →
    codeAny (model P w) A (.call (.ref f) args) (CR CX0 outer P w H s Q E) s
section
variable {P : Program} {w : World} {K : PySem.W.Frag} {mg : Str → Option Value} {base : Heap}
theorem okG {x qual : Str} {st : Stmt} {f : Addr} {fd : FuncData} {N ps : List Str} {k : Nat} {sp : Sp} (F : Fun K x qual st f fd) (S : FnScope N ps (defScope st)) (len : ∀ vs H Q E, sp vs H Q E → vs.length = ps.length)
    (hbody : ∀ (cdv : Value) (A : Around) (outer : List Env) (s : Shared) (H : Hp) (vs : List V) (Q : VK) (E : XK), A.guards = some [] → Room k (A.deeper (envOfC qual (defScope st) s.heap.objs.size f cdv)) → sp vs H Q E →
      ∃ t, PSs (cxOf CX0 P w K mg base N qual (defScope st) f cdv A outer s H E).nox (defBody st) t ∧ t { nx := fun _ H' => Q .non H', rt := Q } (L2.start N vs) H) : FnOkG P w K mg base (k + 1) f fd ps sp := by
  obtain ⟨oc, od, kV, doc, pm, an, cdv, ct, osl, rfl, lk, hcd⟩ := F.ex
  refine ⟨len, fun A outer s H args us vs Q E hgd hr e0 hb r hsp => ?_⟩
  have sub : ∀ b o, base.get? b = some o → s.heap.get? b = some o := fun b o e => (e0.bs b o e).1
  have inK : K.In s.heap := e0.mod.kin.keeps sub
  have lim : s.heap.NoLimit := e0.mod.nolimit.keeps sub
  have hkind : ∀ y ∈ ps.zip us, (defScope st).names.lookup y.1 = some .local ∨ ((defScope st).names.lookup y.1 = some .cell ∧ ((cellsFrom (s.heap.objs.size + 1) (defScope st).names []).lookup y.1).isSome = true) := by
    rintro ⟨n, v⟩ hy
    exact (S.par n (List.of_mem_zip hy).1).elim .inl fun z => .inr ⟨z, PySem.W.cellsFrom_some _ _ _ (.inl z)⟩
  refine codeAny_call_function hr.depth (inK _ _ lk) rfl S.co S.gen rfl (PySem.W.codeRec_of inK hcd) (hb _ _ _ _ (wpAny_newFunctionEnv_cells S.kind hkind fun env he s1 hs1 => ?_))
  subst he
  obtain ⟨t, ht, hq⟩ := hbody cdv A outer s H vs Q E hgd (hr.deeper _) hsp
  have I := inv_start (CX := CX0) (P := P) (w := w) (f := f) (cd := cdv) (E := E) (qual := qual) S hr.hd e0 (len _ _ _ _ hsp) r hs1
  refine ⟨lim.keeps hs1.toInCall.keep, codeAny_func (wpAny_mono (ht.nox.run [] s1 (L2.start N vs) H _ I hq) (fun fl s' hs => ?_) fun e s' hs => hs)⟩
  cases fl with
  | ret u => obtain ⟨v, σ', H', J, rv, q⟩ := hs; exact ⟨v, H', J.os, J.bare, J.base, J.hok, rv, q⟩
  | next => obtain ⟨σ', H', J, q⟩ := hs; exact ⟨.non, H', J.os, J.bare, J.base, J.hok, rfl, q⟩
  | brk => obtain ⟨_, _, _, q⟩ := hs; exact q.elim
  | cont => obtain ⟨_, _, _, q⟩ := hs; exact q.elim
end
/-- what is tracked ahead of the law's call: the script alone -/
def only (a : Addr) (o : Obj) (xs : List V) : Hp := fun b => if b = a then some (.frz o (.lst xs)) else none
theorem only_ne {a b : Addr} {o : Obj} {xs : List V} (h : b ≠ a) : only a o xs b = none := if_neg h
theorem only_at {a : Addr} {o : Obj} {xs : List V} : only a o xs a = some (.frz o (.lst xs)) := if_pos rfl
theorem only_is {a b : Addr} {o : Obj} {xs : List V} {u : HO} (h : only a o xs b = some u) : b = a ∧ u = .frz o (.lst xs) := by
  by_cases e : b = a
  · subst e
    rw [only_at] at h
    exact ⟨rfl, (Option.some.inj h).symm⟩
  · rw [only_ne e] at h
    cases h
end Ew
namespace Ew
open PySem PySem.Spec PyProof.Rows L2
section
variable {prog : Program} {w : World} {A : Around} {E : Value → Shared → Prop} {s : Shared}
/-- the heap behind the collecting of vs -/
abbrev heapC (h : Heap) (vs : List Value) : Heap := (h.push (seqObj "list" #[] 0)).update h.objs.size (Obj.mapSeq (· ++ vs.toArray))
theorem collect_tup {l : Addr} {vs : List Value} {Q : List Value → Shared → Prop} (hl : IsTup s.heap l vs.toArray) (hsz : vs.length ≤ sizeLine) (h : Q vs { s with heap := heapC s.heap vs }) : wpAny (model prog w) A (collect (.ref l)) Q E s := by
  obtain ⟨o, ho, hc, n, hd⟩ := id hl
  have ho' : (s.heap.push (seqObj "list" #[] 0)).get? l = some o := Heap.get?_push_of_some _ ho
  have hn : (s.heap.push (seqObj "list" #[] 0)).get? s.heap.objs.size = some (seqObj "list" #[] 0) := Heap.get?_push_size _ rfl
  unfold collect
  refine wpAny_bind (wpAny_runValue (codeAny_builtin entry_proto_collect' ?_))
  show wpAny _ _ (do again (.builtin "list.__iadd__" ⟨[← newList [], .ref l], []⟩)) _ _ s
  refine wpAny_bind (wpAny_newList (wpAny_pure ⟨Code.quiet_builtin _ (by decide +kernel), codeAny_builtin entry_list_iadd' ?_⟩))
  show wpAny _ _ (Builtin.List.listExtendWith (.ref s.heap.objs.size) (.ref l) (.ref s.heap.objs.size)) _ _ { s with heap := s.heap.push (seqObj "list" #[] 0) }
  unfold Builtin.List.listExtendWith
  refine wpAny_bind (wpAny_typeOf (T := "tuple") ⟨o, ho', hc⟩ ?_)
  rw [if_pos (by rw [show (Value.type "tuple" == Value.type "tuple") = true from rfl, Bool.or_true])]
  refine wpAny_bind (listItems_at ho' hd (wpAny_bind (listItems_at (xs := #[]) (n := 0) hn rfl ?_)))
  rw [if_neg (by simp)]
  refine wpAny_bind (listUpdate_at (xs := #[]) (n := 0) hn rfl (wpAny_pure ?_) (Nat.zero_le _) (by show (#[] ++ vs.toArray).size ≤ sizeLine + 1; simp; omega))
  show wpAny (model prog w) A (do
      let o ← load s.heap.objs.size
      match o.data with
      | .seq xs _ => pure xs.toList
      | _ => unsupported "internal:collect") Q E { s with heap := heapC s.heap vs }
  refine wpAny_bind (wpAny_load (get?_update_seq hn _) ?_)
  show wpAny _ _ (pure ((#[] : Array Value) ++ vs.toArray).toList) Q E _
  have e : ((#[] : Array Value) ++ vs.toArray).toList = vs := by simp
  rw [e]
  exact wpAny_pure h
theorem sorted_tup {l : Addr} {vs : List Value} {ns : List Int} {Q : Value → Shared → Prop} (hl : IsTup s.heap l vs.toArray) (hI : IntsAre vs ns) (h64 : vs.length < 64)
    (h : ∀ (out : Array Value) (ns' : List Int), IntsAre out.toList ns' → ns'.Perm ns → ns'.Pairwise (· ≤ ·) → Q (.ref (s.heap.objs.size + 1)) { s with heap := sortedAll s.heap vs out }) :
    wpAny (model prog w) A (call (.builtin "sorted") [.ref l]) Q E s := by
  have zs : vs.length ≤ sizeLine := Nat.le_trans (Nat.le_of_lt h64) (by decide)
  have hsz : (heapC s.heap vs).objs.size = s.heap.objs.size + 1 := by rw [Heap.size_update, size_push']
  have hoL : ((heapC s.heap vs).push (seqObj "list" vs.toArray 0)).get? (s.heap.objs.size + 1) = some (seqObj "list" vs.toArray 0) := by
    rw [← hsz]
    exact Heap.get?_push_size _ rfl
  refine Calls.call_function_entry kind_sorted plain_sorted entry_sorted (args_sorted1 _) ?_
  unfold Builtin.«sorted»
  refine wpAny_bind (m := checkCount "sorted" 1 1 _) (wpAny_pure (wpAny_bind (collect_tup hl zs (wpAny_bind (wpAny_newList ?_)))))
  show wpAny _ _ _ _ _ { s with heap := (heapC s.heap vs).push (seqObj "list" vs.toArray 0) }
  rw [hsz]
  exact wpAny_bind (wpAny_holding (wpAny_call_entry slot_list_sort ⟨_, hoL, rfl⟩ entry_list_sort (list_sort_tree hoL hI h64 fun out ns' a1 a2 a3 => ⟨_, rfl, wpAny_pure ⟨_, rfl, h out ns' a1 a2 a3⟩⟩) (args_list_sort _)))
end
section
variable {X : Cx}
def rSortedTu (K : PySem.W.Frag) : List V → Hp → VK → Prop := fun vs H Q => ∃ (a : Addr) (ns : List Int), vs = [V.ref a] ∧ SqT K H a (ns.map V.int) ∧ ns.length < 64 ∧ ∀ (ns' : List Int) (p : Addr), ns'.Perm ns → ns'.Pairwise (· ≤ ·) → H p = none → Q (.ref p) (upd H p (.lst (ns'.map V.int)))
theorem cr_sortedTu : CallR X (.builtin "sorted") (rSortedTu X.K) := by
  intro pins s σ H vs us Q I r h
  obtain ⟨a, ns, rfl, hs, h64, q⟩ := h
  obtain ⟨its, rv, hl, _⟩ := I.tuple hs
  rw [Vals.ref1 r]
  have hi := rv.ints
  refine sorted_tup hl hi (by rw [hi.length]; exact h64) fun out ns' h1 h2 h3 => ?_
  obtain ⟨ep, he⟩ := PyProof.Rows.sortedAll_at s.heap its out
  have hz : (ns'.map V.int).length ≤ sizeLine := by rw [List.length_map, h2.length_eq]; exact Nat.le_trans (Nat.le_of_lt h64) (by decide)
  exact ⟨.ref _, upd H (s.heap.objs.size + 1) (.lst (ns'.map V.int)), I.laid (t' := s.toks) (fun _ _ => PyProof.Rows.sortedAll_old) (Nat.le_succ _) ⟨hz, out.toList, ep, vals_of_ints h1, he⟩, rfl, q ns' _ h2 h3 (I.hok.fresh (Nat.le_succ _))⟩
end
end Ew
namespace Ew
open PySem PySem.Spec PyProof.Rows L2
theorem split_len {α : Type} (p : α → Bool) : ∀ l : List α, l.length = (l.filter p).length + (l.filter fun x => !p x).length
  | [] => rfl
  | x :: l => by
    have ih := split_len p l
    cases h : p x with
    | true => simp [h]; omega
    | false => simp [h]; omega
theorem nodup_asc {l : List Int} (h : l.Pairwise (· < ·)) : l.Nodup := h.imp fun h => by omega
end Ew
namespace Ew
open PySem PySem.Spec PyProof.Rows L2
def lens (ts : List Str) : Nat := (ts.map fun t => t.length + 2).sum
theorem textFrom_le : ∀ (ts : List Str) (k : Nat) (acc : Str), (textFrom k acc ts).length ≤ acc.length + lens ts
  | [], _, acc => Nat.le_refl _
  | t :: r, k, acc => by
    have ih := textFrom_le r (k + 1) (acc ++ (if k > 0 then ", " else "" : String) ++ t)
    have e : (acc ++ (if k > 0 then ", " else "" : String) ++ t).length = acc.length + (if k > 0 then 2 else 0) + t.length := by
      rw [strLen_append, strLen_append]
      split <;> rfl
    have e2 : lens (t :: r) = t.length + 2 + lens r := by
      unfold lens
      rw [List.map_cons, List.sum_cons]
    show (textFrom (k + 1) (acc ++ (if k > 0 then ", " else "" : String) ++ t) r).length ≤ _
    rw [e2]
    rw [e] at ih
    have e3 : (if k > 0 then 2 else 0) ≤ 2 := by split <;> omega
    omega
theorem listText_le (ts : List Str) : (listText ts).length ≤ 2 + lens ts := by
  unfold listText
  rw [strLen_append]
  have := textFrom_le ts 0 "["
  have e1 : (("[" : String) : Str).length = 1 := rfl
  have e2 : (("]" : String) : Str).length = 1 := rfl
  rw [e2]
  rw [e1] at this
  omega
theorem piled_lens : ∀ ts : List Str, piled ts = lens ts
  | [] => rfl
  | t :: r => by
    rw [piled_cons, piled_lens r]
    unfold lens
    rw [List.map_cons, List.sum_cons]
theorem tupleText_le (ts : List Str) : (tupleText ts).length ≤ 3 + lens ts := by
  unfold tupleText
  rw [strLen_append, strLen_append]
  have e1 : (("(" : String) : Str).length = 1 := rfl
  have e3 : (((if ts.length == 1 then ",)" else ")" : String)) : Str).length ≤ 2 := by
    split <;> decide
  have e2 : (Str.join ", " ts).length ≤ lens ts := by
    cases ts with
    | nil => exact Nat.zero_le _
    | cons t r =>
      have := join_length_add (t :: r) (by simp)
      rw [piled_lens] at this
      omega
  rw [e1]
  omega
theorem lens_map {α : Type} (g : α → Str) (b : Nat) : ∀ l : List α, (∀ x ∈ l, (g x).length ≤ b) → lens (l.map g) ≤ l.length * (b + 2)
  | [], _ => Nat.zero_le _
  | x :: l, h => by
    have ih := lens_map g b l fun y hy => h y (by simp [hy])
    have hx := h x (by simp)
    have e : lens ((x :: l).map g) = (g x).length + 2 + lens (l.map g) := by
      unfold lens
      rw [List.map_cons, List.map_cons, List.sum_cons]
    rw [e, List.length_cons, Nat.succ_mul]
    omega
/-- a small int: 0 to 9 -/
def Dig (i : Int) : Prop := 0 ≤ i ∧ i < 10
theorem dig_cases {i : Int} (h : Dig i) : i = 0 ∨ i = 1 ∨ i = 2 ∨ i = 3 ∨ i = 4 ∨ i = 5 ∨ i = 6 ∨ i = 7 ∨ i = 8 ∨ i = 9 := by
  obtain ⟨h1, h2⟩ := h
  omega
theorem show_int {i : Int} (h : Dig i) : PyData.showable (.int i) = true ∧ (PyData.shown (.int i)).length ≤ 1 := by
  rcases dig_cases h with rfl | rfl | rfl | rfl | rfl | rfl | rfl | rfl | rfl | rfl <;> exact ⟨by decide +kernel, by decide +kernel⟩
theorem show_bool (b : Bool) : PyData.showable (.bool b) = true ∧ (PyData.shown (.bool b)).length ≤ 5 := by
  cases b <;> exact ⟨rfl, by decide +kernel⟩
section
variable {X : Cx}
/-- t + u, whatever is empty -/
def rCat1 (K : PySem.W.Frag) : R2 := fun x y H Q => ∃ a b xs ys, x = .ref a ∧ y = .ref b ∧ SqT K H a xs ∧ SqT K H b ys ∧ xs.length + ys.length ≤ sizeLine ∧ ∀ p H', Same H H' → SqT K H' p (xs ++ ys) → Q (.ref p) H'
theorem op_cat1 : OpR X (binaryOp .Add) (rCat1 X.K) := by
  intro pins s σ H x y v u Q I rx ry h
  obtain ⟨a, b, xs, ys, rfl, rfl, ha, hb, hz, q⟩ := h
  exact op_catA pins s σ H _ _ v u Q I rx ry ⟨a, b, xs, ys, rfl, rfl, ha, hb, hz, fun e => q b H (Same.refl H) (by rw [e]; exact hb), fun _ e => q a H (Same.refl H) (by rw [e, List.append_nil]; exact ha), fun _ _ p np => q p _ (sameU np) (.inl (.inl upd_same))⟩
end
end Ew
namespace Ew
open PySem PySem.Spec PyProof.Rows L2
mutual
inductive Dq (K : PySem.W.Frag) (P : Addr → Prop) (H : Hp) : V → PyData → Prop
  | non : Dq K P H .non .none
  | bl (b : Bool) : Dq K P H (.bl b) (.bool b)
  | int (i : Int) : Dq K P H (.int i) (.int i)
  | str (x : Str) : Dq K P H (.str x) (.str x)
  | lst {a : Addr} {xs : List V} {ds : List PyData} : P a → H a = some (.lst xs) → DqA K P H xs ds → Dq K P H (.ref a) (.list ds)
  | tup {a : Addr} {xs : List V} {ds : List PyData} : SqT K H a xs → DqA K P H xs ds → Dq K P H (.ref a) (.tuple ds)
  | dic {a : Addr} : H a = some (.dK []) → Dq K P H (.ref a) (.dict [])
inductive DqA (K : PySem.W.Frag) (P : Addr → Prop) (H : Hp) : List V → List PyData → Prop
  | nil : DqA K P H [] []
  | cons {v : V} {d : PyData} {vs : List V} {ds : List PyData} : Dq K P H v d → DqA K P H vs ds → DqA K P H (v :: vs) (d :: ds)
end
def tyD : PyData → String
  | .none => "NoneType"
  | .bool _ => "bool"
  | .int _ => "int"
  | .str _ => "str"
  | .list _ => "list"
  | .tuple _ => "tuple"
  | .dict _ => "dict"
theorem dq_bt {K : PySem.W.Frag} {P : Addr → Prop} {H : Hp} {v : V} {d : PyData} (h : Dq K P H v d) : TyX K H v (.type (tyD d)) := by
  cases h with
  | non => exact .base .non
  | bl b => exact .base (.bl b)
  | int i => exact .base (.int i)
  | str x => exact .base (.str x)
  | lst _ e _ => exact .base (.lst e)
  | tup q _ =>
    rcases q with (h | ⟨o, h⟩) | ⟨o, its, n, h, c, _⟩
    · exact .base (.tup h)
    · exact .fTuple h
    · exact .kTuple h c
  | dic e => exact .base (.dK e)
mutual
theorem Dq.imp {K : PySem.W.Frag} {P P' : Addr → Prop} {H : Hp} (s : ∀ a xs, H a = some (.lst xs) → P a → P' a) : ∀ {d : PyData} {v : V}, Dq K P H v d → Dq K P' H v d
  | .none, _, h => by cases h; exact .non
  | .bool _, _, h => by cases h; exact .bl _
  | .int _, _, h => by cases h; exact .int _
  | .str _, _, h => by cases h; exact .str _
  | .list ds, _, h => by
    cases h with
    | lst p e a => exact .lst (s _ _ e p) e (DqA.imp s a)
  | .tuple ds, _, h => by
    cases h with
    | tup q a => exact .tup q (DqA.imp s a)
  | .dict kvs, _, h => by
    cases h with
    | dic e => exact .dic e
theorem DqA.imp {K : PySem.W.Frag} {P P' : Addr → Prop} {H : Hp} (s : ∀ a xs, H a = some (.lst xs) → P a → P' a) : ∀ {ds : List PyData} {vs : List V}, DqA K P H vs ds → DqA K P' H vs ds
  | [], _, h => by cases h; exact .nil
  | d :: ds, _, h => by
    cases h with
    | cons a b => exact .cons (Dq.imp s a) (DqA.imp s b)
end
theorem DqA.len {K : PySem.W.Frag} {P : Addr → Prop} {H : Hp} : ∀ {vs : List V} {ds : List PyData}, DqA K P H vs ds → vs.length = ds.length
  | [], [], _ => rfl
  | _ :: vs, _ :: ds, .cons _ t => by rw [List.length_cons, List.length_cons, DqA.len t]
theorem dqA_ints {K : PySem.W.Frag} {P : Addr → Prop} {H : Hp} : ∀ l : List Int, DqA K P H (l.map V.int) (l.map PyData.int)
  | [] => .nil
  | _ :: l => .cons (.int _) (dqA_ints l)
theorem dqA_map {K : PySem.W.Frag} {P : Addr → Prop} {H : Hp} {α : Type} {R : V → α → Prop} {g : α → PyData} (h : ∀ v a, R v a → Dq K P H v (g a)) : ∀ {vs : List V} {as : List α}, Paired R vs as → DqA K P H vs (as.map g)
  | _, _, .nil => .nil
  | _, _, .cons r t => .cons (h _ _ r) (dqA_map h t)
theorem dq_dT {K : PySem.W.Frag} {P : Addr → Prop} {H : Hp} {v : V} {l : List Int} (h : RowT K H v l) : Dq K P H v (dT l) := let ⟨_, e, q⟩ := h; e ▸ .tup q (dqA_ints l)
theorem dqA_dWs {K : PySem.W.Frag} {P : Addr → Prop} {H : Hp} {vs : List V} {ws : List (List Int)} (h : Paired (RowT K H) vs ws) : DqA K P H vs (ws.map dT) := dqA_map (g := dT) (fun _ _ z => dq_dT z) h
theorem dq_dWs {K : PySem.W.Frag} {P : Addr → Prop} {H : Hp} {a : Addr} {vs : List V} {ws : List (List Int)} (p : P a) (e : H a = some (.lst vs)) (h : Paired (RowT K H) vs ws) : Dq K P H (.ref a) (dWs ws) := .lst p e (dqA_dWs h)
section
variable {X : Cx} {pins : List (Addr × Obj)} {σ : L2.St} {H : Hp} {s : Shared} {P : Addr → Prop}
mutual
theorem dq_reads (I : L2.Inv X pins σ H s) (low : H sysModules = none) : ∀ (d : PyData) (v : V) (u : Value), Dq X.K P H v d → L2.RelV v u → ∃ as, Reads s.heap u d as ∧ sysModules ∉ as
  | .none, _, u, h, r => by
    cases h
    cases (show u = Value.none from r)
    exact ⟨_, .none, by simp⟩
  | .bool b, _, u, h, r => by
    cases h
    cases (show u = Value.bool b from r)
    exact ⟨_, .bool b, by simp⟩
  | .int i, _, u, h, r => by
    cases h
    obtain ⟨t, q⟩ := (show ∃ t, u = Value.int i t from r)
    cases q
    exact ⟨_, .int i t, by simp⟩
  | .str x, _, u, h, r => by
    cases h
    obtain ⟨t, q⟩ := (show ∃ t, u = Value.str x t from r)
    cases q
    exact ⟨_, .str x t, by simp⟩
  | .list ds, _, u, h, r => by
    cases h with
    | @lst a xs _ p e ha =>
      cases (show u = Value.ref a from r)
      obtain ⟨_, vs, n, rv, h1⟩ := (show ObjOk X.prog X.w H s.heap a (.lst xs) from I.hok a _ e)
      obtain ⟨as, ra, na⟩ := dqA_reads I low ds xs vs ha rv
      refine ⟨_, .list h1 rfl rfl ra, ?_⟩
      intro z
      rcases List.mem_cons.mp z with z | z
      · rw [z, e] at low
        cases low
      · exact na z
  | .tuple ds, _, u, h, r => by
    cases h with
    | @tup a xs _ q ha =>
      cases (show u = Value.ref a from r)
      obtain ⟨its, rv, ⟨o, h1, h2, n, h3⟩, _⟩ := I.tuple q
      obtain ⟨as, ra, na⟩ := dqA_reads I low ds xs its ha rv
      exact ⟨_, .tuple h1 h2 h3 (by simpa using ra), na⟩
  | .dict kvs, _, u, h, r => by
    cases h with
    | @dic a e =>
      cases (show u = Value.ref a from r)
      obtain ⟨_, z2, vs, z3, o, es, ep, h1, h2, h3, _, h5, _⟩ := (show ObjOk X.prog X.w H s.heap a (.dK []) from I.hok a _ e)
      cases z3
      have hes : es.toList = [] := by
        generalize es.toList = l at h5
        cases h5
        rfl
      refine ⟨_, .dict (as := []) (bs := []) h1 h2.1 h3 (by rw [hes]; exact .nil) (by rw [hes]; exact .nil), ?_⟩
      intro z
      rw [List.append_nil, List.mem_singleton] at z
      rw [← z] at z2
      simp at z2
theorem dqA_reads (I : L2.Inv X pins σ H s) (low : H sysModules = none) : ∀ (ds : List PyData) (vs : List V) (us : List Value), DqA X.K P H vs ds → Vals vs us → ∃ as, ReadsAll s.heap us ds as ∧ sysModules ∉ as
  | [], _, us, h, r => by
    cases h
    cases r
    exact ⟨_, .nil, by simp⟩
  | d :: ds, _, us, h, r => by
    cases h with
    | cons a b =>
      cases r with
      | cons r1 r2 =>
        obtain ⟨as, h1, n1⟩ := dq_reads I low d _ _ a r1
        obtain ⟨bs, h2, n2⟩ := dqA_reads I low ds _ _ b r2
        refine ⟨_, .cons h1 h2, ?_⟩
        intro z
        rcases List.mem_append.mp z with z | z
        · exact n1 z
        · exact n2 z
end
end
def rReprQ (K : PySem.W.Frag) : List V → Hp → VK → Prop := fun xs H Q => ∃ (P : Addr → Prop) (v : V) (d : PyData), xs = [v] ∧ Dq K P H v d ∧ d.showable = true ∧ d.depth ≤ 60 ∧ d.shown.length ≤ sizeLine ∧ Q (.str d.shown) H
section
variable {X : Cx}
theorem low_of {pins : List (Addr × Obj)} {σ : L2.St} {H : Hp} {s : Shared} (I : L2.Inv X pins σ H s) (hb : ∃ o, X.base.get? sysModules = some o) : H sysModules = none := by
  obtain ⟨o, e⟩ := hb
  obtain ⟨h1, h2⟩ := I.ok.bs _ _ e
  exact I.base.free _ _ h1 h2 (I.ok.noex _ _ e)
theorem call_reprQ (hb : ∃ o, X.base.get? sysModules = some o) (hg : X.A.guards = some []) (hu : X.A.units + 64 < cLine) : CallR X (.builtin "repr") (rReprQ X.K) := by
  intro pins s σ H xs us Q I r h
  obtain ⟨P, v, d, rfl, hd, hs, hdep, hsz, q⟩ := h
  cases r with
  | cons r1 r2 =>
    cases r2
    rename_i u
    obtain ⟨as, rd, na⟩ := dq_reads I (low_of I hb) d v u hd r1
    have fin : ∀ a, u = .ref a → wpAny (model X.prog X.w) X.A (call (.builtin "repr") [u]) (EP X pins σ Q) X.xe s := fun a e => by
      subst e
      exact repr_of_reads' rd hs (fun _ => na) hg (by omega) (fun _ _ e => e) (fun h' u tk hk => ⟨.str _, H, I.kept (t' := tk) hk, ⟨_, rfl⟩, q⟩) hsz
    cases hd with
    | non => cases (show u = Value.none from r1); exact PySem.P.repr_of_none ⟨.str _, H, I.tok _, ⟨_, rfl⟩, q⟩
    | bl b => cases (show u = Value.bool b from r1); exact PySem.P.repr_of_bool ⟨.str _, H, I.tok _, ⟨_, rfl⟩, q⟩
    | int i => obtain ⟨t, e⟩ := (show ∃ t, u = Value.int i t from r1); cases e; exact PySem.P.repr_of_int (of_decide_eq_true hs) ⟨.str _, H, I.tok _, ⟨_, rfl⟩, q⟩
    | str y => obtain ⟨t, e⟩ := (show ∃ t, u = Value.str y t from r1); cases e; exact PySem.P.repr_of_str (hsz := hsz) ⟨.str _, H, I.tok _, ⟨_, rfl⟩, q⟩
    | lst _ _ _ => exact fin _ r1
    | tup _ _ => exact fin _ r1
    | dic _ => exact fin _ r1
def rNeNil (K : PySem.W.Frag) (neg : Bool) : R2 := fun x y H Q => ∃ a b xs, x = .ref a ∧ y = .ref b ∧ SqL K H a xs ∧ SqL K H b [] ∧ Q (.bl (if neg then !xs.isEmpty else xs.isEmpty)) H
theorem isL {h : Heap} {a : Addr} {its : Array Value} (p : PlainL h a its) : h.IsList a its := let ⟨o, n, e, c, _, d⟩ := p; ⟨o, e, c, n, d⟩
theorem op_neNil (hu : X.A.units < cLine) : OpR X (compareOp .NotEq) (rNeNil X.K true) := by
  intro pins s σ H x y v u Q I rx ry h
  obtain ⟨a, b, xs, rfl, rfl, ha, hb, q⟩ := h
  cases (show v = Value.ref a from rx)
  cases (show u = Value.ref b from ry)
  obtain ⟨ia, va, la, _⟩ := I.list ha
  obtain ⟨ib, vb, lb, _⟩ := I.list hb
  cases vb
  cases va with
  | nil => exact SeqAt.RcNeAt.lists (e := fun _ => true) (isL la) (isL lb) rfl hu (fun j h1 h2 => absurd h1 (by simp)) _ _ _ _ ⟨.bl false, H, I, rfl, q⟩
  | cons r t => exact SeqAt.RcNeAt.lists_lengths (isL la) (isL lb) (by simp) hu _ _ _ _ ⟨.bl true, H, I, rfl, q⟩
theorem op_eqNil (hu : X.A.units < cLine) : OpR X (compareOp .Eq) (rNeNil X.K false) := by
  intro pins s σ H x y v u Q I rx ry h
  obtain ⟨a, b, xs, rfl, rfl, ha, hb, q⟩ := h
  cases (show v = Value.ref a from rx)
  cases (show u = Value.ref b from ry)
  obtain ⟨ia, va, la, _⟩ := I.list ha
  obtain ⟨ib, vb, lb, _⟩ := I.list hb
  cases vb
  cases va with
  | nil => exact SeqAt.RcAt.lists (e := fun _ => true) (isL la) (isL lb) rfl hu (fun j h1 h2 => absurd h1 (by simp)) _ _ _ _ ⟨.bl true, H, I, rfl, q⟩
  | cons r t => exact SeqAt.RcAt.lists_lengths (isL la) (isL lb) (by simp) hu _ _ _ _ ⟨.bl false, H, I, rfl, q⟩
def rSetOfI (K : PySem.W.Frag) (w : World) : List V → Hp → VK → Prop := fun vs H Q => ∃ (l : Addr) (ns : List Int), vs = [V.ref l] ∧ SqT K H l (ns.map V.int) ∧ ns.length ≤ 1000 ∧ ∀ a c, H a = none → c ≤ ns.length → Q (.ref a) (upd H a (SetO w a (fun j => decide (j ∈ ns)) c))
theorem cr_setOfI (hc : X.calm = true) : CallR X (.type "set") (rSetOfI X.K X.w) := by
  intro pins s σ H vs us Q I r h
  obtain ⟨l, ns, rfl, hs, hl, q⟩ := h
  obtain ⟨its, rv, ht, _⟩ := I.tuple hs
  rw [Vals.ref1 r]
  refine call_set_tupI ns (I.ok.hd hc) ht rv.ints (Nat.lt_of_le_of_lt (Nat.succ_le_succ hl) (by decide)) fun h' tk c hS hc' hk => ?_
  refine ⟨.ref _, upd H s.heap.objs.size (SetO X.w s.heap.objs.size (fun j => decide (j ∈ ns)) c), I.laid (t' := tk) hk (Nat.le_refl _) ?_, rfl, q _ c I.fresh hc'⟩
  obtain ⟨o, es, ep, t, e, rest⟩ := id hS
  refine ⟨hS, ⟨o, e⟩, fun h1 h2 hp hk2 => ?_⟩
  obtain ⟨o', es', ep', t', e', rest'⟩ := hp
  exact ⟨o', es', ep', t', hk2 _ e', rest'⟩
end
end Ew
namespace Ew
open PySem PySem.Spec PyProof.Rows L2
theorem fm_congr {α β : Type} {f g : α → Option β} : ∀ {l : List α}, (∀ x ∈ l, f x = g x) → l.filterMap f = l.filterMap g
  | [], _ => rfl
  | a :: l, h => by
    rw [List.filterMap_cons, List.filterMap_cons, h a (by simp), fm_congr fun x hx => h x (by simp [hx])]
theorem pick_rev (xs : Array Value) : (List.filterMap (fun k => xs[((xs.size : Int) - 1 + ((k : Nat) : Int) * -1).toNat]?) (List.range xs.size)).toArray = xs.toList.reverse.toArray := by
  congr 1
  obtain ⟨l⟩ := xs
  show List.filterMap (fun k => (List.toArray l)[((l.length : Int) - 1 + ((k : Nat) : Int) * -1).toNat]?) (List.range l.length) = l.reverse
  have e : ∀ k ∈ List.range l.length, (fun (k : Nat) => (List.toArray l)[((l.length : Int) - 1 + ((k : Nat) : Int) * -1).toNat]?) k = (fun (k : Nat) => l.reverse[k]?) k := by
    intro k hk
    have hk' := List.mem_range.mp hk
    show (List.toArray l)[((l.length : Int) - 1 + ((k : Nat) : Int) * -1).toNat]? = l.reverse[k]?
    rw [List.getElem?_reverse hk', List.getElem?_toArray]
    congr 1
    omega
  rw [fm_congr e]
  have : ∀ r : List Value, List.filterMap (fun k => r[k]?) (List.range r.length) = r := by
    intro r
    refine List.ext_getElem? fun i => ?_
    have : List.filterMap (fun k => r[k]?) (List.range r.length) = (List.range r.length).map fun k => r.getD k .none := by
      rw [← List.filterMap_eq_map]
      refine fm_congr fun k hk => ?_
      have hk' := List.mem_range.mp hk
      simp [List.getD, hk']
    rw [this, List.getElem?_map]
    by_cases h : i < r.length
    · rw [List.getElem?_range h]
      simp [List.getD, h]
    · rw [List.getElem?_eq_none (by simpa using h), List.getElem?_eq_none (by simpa using h)]
      rfl
  have h2 := this l.reverse
  rw [List.length_reverse] at h2
  exact h2
section
variable {prog : Program} {w : World} {A : Around} {E : Value → Shared → Prop} {s : Shared}
theorem applied_rev {sl : Addr} {u : Tok} {n : Nat} {Q : Int × Int × Nat → Shared → Prop} (hs : s.heap.IsSliceOf sl .none .none (.int (-1) u)) (h : Q ((n : Int) - 1, -1, n) s) :
    wpAny (model prog w) A (Builtin.Slice.sliceApplied (.ref sl) (pure (n : Int))) Q E s := by
  obtain ⟨os, hos, hcs, hds⟩ := id hs
  unfold Builtin.Slice.sliceApplied
  refine wpAny_bind (wpAny_bind (wpAny_field hos hds rfl (wpAny_bind (wpAny_field hos hds rfl (wpAny_bind (wpAny_field hos hds rfl (wpAny_pure ?_)))))))
  refine wpAny_bind (HT.slicePart_ (.int (-1) u) ?_)
  dsimp only
  rw [if_neg (by decide)]
  refine wpAny_bind (slicePart_none (wpAny_bind (slicePart_none (wpAny_bind (wpAny_pure ?_)))))
  have e1 : Builtin.Slice.sliceAdjust none none (-1) (n : Int) = ((n : Int) - 1, -1) := rfl
  have e2 : Builtin.Slice.slicePlaces ((n : Int) - 1) (-1) (-1) = n := by
    unfold Builtin.Slice.slicePlaces
    rw [if_neg (by decide)]
    by_cases hn : n = 0
    · subst hn
      rfl
    · rw [if_pos (by omega)]
      have : ((n : Int) - 1 - -1 - 1) / - -1 + 1 = n := by
        rw [Int.neg_neg, Int.ediv_one]
        omega
      rw [this]
      exact Int.toNat_natCast n
  show wpAny _ _ (match Builtin.Slice.sliceAdjust none none (-1) (n : Int) with
    | (lo, hi) => pure (lo, -1, Builtin.Slice.slicePlaces lo hi (-1))) _ _ _
  rw [e1]
  show wpAny _ _ (pure ((n : Int) - 1, -1, Builtin.Slice.slicePlaces ((n : Int) - 1) (-1) (-1))) _ _ _
  rw [e2]
  exact wpAny_pure h
theorem getItem_tuple_rev {t sl : Addr} {items : Array Value} {u : Tok} {Q : Value → Shared → Prop} (ht : IsTup s.heap t items) (hs : s.heap.IsSliceOf sl .none .none (.int (-1) u)) (hsz : items.size ≤ sizeLine)
    (h : Q (.ref s.heap.objs.size) { s with heap := s.heap.push { cls := .type "tuple", data := .seq items.toList.reverse.toArray } }) : wpAny (model prog w) A (getItem (.ref t) (.ref sl)) Q E s := by
  obtain ⟨os, hos, hcs, hds⟩ := id hs
  have hTs : s.TypeIs (.ref sl) "slice" := ⟨os, hos, hcs⟩
  unfold getItem
  refine wpAny_holding (wpAny_bind (wpAny_sequenceKey (IsTup.typeIs ht) (by decide) (wpAny_bind (wpAny_callSpecial?_slot (IsTup.typeIs ht) slot_tuple_getitem (wpAny_call_entry slot_tuple_getitem (IsTup.typeIs ht) entry_tuple_getitem ?_ (args_tuple_getitem _ _))))))
  show wpAny _ _ (Builtin.«tuple.__getitem__» ⟨[.ref t, .ref sl], []⟩) _ _ _
  unfold Builtin.«tuple.__getitem__»
  refine wpAny_bind (m := slotArgs "__getitem__" 1 ⟨[.ref t, .ref sl], []⟩) (wpAny_pure ?_)
  refine wpAny_bind (tupleItemsOf_ ht (wpAny_bind (wpAny_typeOf hTs ?_)))
  rw [if_pos (by decide)]
  refine wpAny_bind (applied_rev hs ?_)
  dsimp only
  rw [if_neg (by rw [show (((-1 : Int) == 1) = false) from rfl, Bool.and_false, Bool.false_and]; decide)]
  rw [pick_rev]
  refine wpAny_bind (wpAny_newObj_type (wpAny_pure ⟨_, rfl, wpAny_pure h⟩) ?_)
  show items.toList.reverse.toArray.size ≤ sizeLine
  simpa using hsz
end
def tRevT (K : PySem.W.Frag) (te : TE) : TE := fun σ H Q => te σ H fun x H1 => ∃ a xs, x = .ref a ∧ SqT K H1 a xs ∧ ∀ p, H1 p = none → Q (.ref p) (upd H1 p (.tup xs.reverse))
section
variable {X : Cx} {e : Expr} {te : TE}
theorem pe_revT {k : Nat} {p1 p2 p3 pos : Pos} (he : PE X e te) : PE X (e.Subscript (.Slice none none (some (.UnaryOp .USub (.Constant (.int 1) k p1) p2)) p3) pos) (tRevT X.K te) := by
  refine ⟨fun pins s σ H Q I h => Subscript_ (thn (he.run pins s σ H _ I h) fun v s1 ⟨x, H1, I1, r1, q1⟩ => ?_)⟩
  obtain ⟨a, xs, rfl, hx, q⟩ := q1
  cases (show v = Value.ref a from r1)
  refine wpAny_Slice ?_
  rw [evalPart_none X.env]
  refine wpAny_pure ?_
  refine wpAny_pure (thn ((po_some (pe_un un_neg pe_int)).run pins s1 σ H1 (fun o H4 => o = some (-1) ∧ H4 = H1) I1 ⟨1, rfl, -1, rfl, rfl, rfl⟩) fun vs s4 ⟨o, H4, I4, ps, eo, e4⟩ => ?_)
  subst eo
  subst e4
  cases ps with
  | int _ u =>
    have I5 := I4.kept (t' := s4.toks) (h' := s4.heap.push { cls := .type "slice", data := .fields #[.none, .none, .int (-1) u] }) fun b ob q => Heap.get?_push_of_some _ q
    obtain ⟨its, rv, ht, hz⟩ := I5.tuple hx
    refine tail_any (IsTup.typeIs ht) slot_tuple_getitem.lookup ?_ rfl
    refine getItem_tuple_rev ht (Heap.IsSliceOf.new s4.heap _ _ _) (by rw [List.size_toArray, ← rv.length]; exact hz) ?_
    refine ⟨.ref _, upd H4 _ (.tup xs.reverse), I5.laid (t' := s4.toks) (fun b ob q => Heap.get?_push_of_some _ q) (Nat.le_refl _) ?_, rfl, q _ I5.fresh⟩
    have rr : Vals xs.reverse its.reverse := Paired.rev rv
    exact ⟨by rw [List.length_reverse]; exact hz, its.reverse, rr, _, Heap.get?_push_size _ rfl, rfl, 0, by simp⟩
end
end Ew
namespace Ew
open PySem PySem.Spec PyProof.Rows L2
instance (r : Int × List Int) (w : List Int) : Decidable (RowOk r w) := by unfold RowOk; infer_instance
def ascI (n : Int) : Int → List Int → Bool
  | _, [] => true
  | l, i :: r => decide (l < i) && decide (i < n) && ascI n i r
theorem ascI_iff {n : Int} : ∀ {w : List Int} {l : Int}, ascI n l w = true ↔ w.Pairwise (· < ·) ∧ ∀ x ∈ w, l < x ∧ x < n
  | [], l => by simp [ascI]
  | i :: w, l => by
    have ih := ascI_iff (n := n) (w := w) (l := i)
    show (decide (l < i) && decide (i < n) && ascI n i w) = true ↔ _
    rw [Bool.and_eq_true, Bool.and_eq_true, ih, decide_eq_true_eq, decide_eq_true_eq, List.pairwise_cons]
    constructor
    · rintro ⟨⟨h1, h2⟩, h3, h4⟩
      refine ⟨⟨fun x hx => (h4 x hx).1, h3⟩, fun x hx => ?_⟩
      rcases List.mem_cons.mp hx with e | e
      · subst e; exact ⟨h1, h2⟩
      · have := h4 x e; omega
    · rintro ⟨⟨h1, h2⟩, h3⟩
      have h0 := h3 i (by simp)
      exact ⟨h0, h2, fun x hx => ⟨h1 x hx, (h3 x (by simp [hx])).2⟩⟩
theorem asc_same : ∀ {a b : List Int}, a.Pairwise (· < ·) → b.Pairwise (· < ·) → (∀ x, x ∈ a ↔ x ∈ b) → a = b
  | [], [], _, _, _ => rfl
  | [], y :: b, _, _, h => by have := (h y).mpr (by simp); simp at this
  | x :: a, [], _, _, h => by have := (h x).mp (by simp); simp at this
  | x :: a, y :: b, ha, hb, h => by
    have ha' := List.pairwise_cons.mp ha
    have hb' := List.pairwise_cons.mp hb
    have e : x = y := by
      rcases List.mem_cons.mp ((h x).mp (by simp)) with e | e
      · exact e
      · rcases List.mem_cons.mp ((h y).mpr (by simp)) with e2 | e2
        · exact e2.symm
        · have := hb'.1 x e
          have := ha'.1 y e2
          omega
    subst e
    have : a = b := asc_same ha'.2 hb'.2 fun z => by
      constructor
      · intro hz
        rcases List.mem_cons.mp ((h z).mp (by simp [hz])) with e | e
        · have := ha'.1 z hz; omega
        · exact e
      · intro hz
        rcases List.mem_cons.mp ((h z).mpr (by simp [hz])) with e | e
        · have := hb'.1 z hz; omega
        · exact e
    rw [this]
/-- a list is its own things in order, once each, where it is ascending -/
theorem sorted_self {w ns : List Int} (h1 : ns.Pairwise (· < ·)) (h2 : ∀ k, k ∈ ns ↔ k ∈ w) : decide (w = ns) = decide (w.Pairwise (· < ·)) := by
  rw [Bool.eq_iff_iff, decide_eq_true_eq, decide_eq_true_eq]
  constructor
  · intro e; rw [e]; exact h1
  · intro h; exact asc_same h h1 fun x => (h2 x).symm
end Ew
namespace Ew
open PySem PySem.Spec PyProof.Rows L2
structure Sm (n b : Nat) (d : PyData) : Prop where
  can : d.showable = true
  dep : d.depth ≤ n
  len : d.shown.length ≤ b
theorem Sm.mono {n m b c : Nat} {d : PyData} (h : Sm n b d) (h1 : n ≤ m) (h2 : b ≤ c) : Sm m c d := ⟨h.can, Nat.le_trans h.dep h1, Nat.le_trans h.len h2⟩
theorem showAll_of : ∀ {ds : List PyData}, (∀ d ∈ ds, d.showable = true) → PyData.showableAll ds = true
  | [], _ => rfl
  | d :: ds, h => by
    show (PyData.showable d && PyData.showableAll ds) = true
    rw [h d (by simp), showAll_of fun x hx => h x (by simp [hx])]
    rfl
theorem depAll_of {n : Nat} : ∀ {ds : List PyData}, (∀ d ∈ ds, d.depth ≤ n) → PyData.depthAll ds ≤ n
  | [], _ => Nat.zero_le _
  | d :: ds, h => Nat.max_le.mpr ⟨h d (by simp), depAll_of fun x hx => h x (by simp [hx])⟩
theorem shownAll_eq : ∀ ds : List PyData, PyData.shownAll ds = ds.map PyData.shown
  | [] => rfl
  | d :: ds => by
    show PyData.shown d :: PyData.shownAll ds = _
    rw [shownAll_eq ds]
    rfl
theorem sm_list {n b : Nat} {ds : List PyData} (h : ∀ d ∈ ds, Sm n b d) : Sm (n + 1) (3 + ds.length * (b + 2)) (.list ds) := by
  refine ⟨showAll_of fun d hd => (h d hd).can, Nat.succ_le_succ (depAll_of fun d hd => (h d hd).dep), ?_⟩
  show (listText (PyData.shownAll ds)).length ≤ _
  rw [shownAll_eq]
  have h1 := listText_le (ds.map PyData.shown)
  have h2 := lens_map PyData.shown b ds fun d hd => (h d hd).len
  omega
theorem sm_tuple {n b : Nat} {ds : List PyData} (h : ∀ d ∈ ds, Sm n b d) : Sm (n + 1) (3 + ds.length * (b + 2)) (.tuple ds) := by
  refine ⟨showAll_of fun d hd => (h d hd).can, Nat.succ_le_succ (depAll_of fun d hd => (h d hd).dep), ?_⟩
  show (tupleText (PyData.shownAll ds)).length ≤ _
  rw [shownAll_eq]
  have h1 := tupleText_le (ds.map PyData.shown)
  have h2 := lens_map PyData.shown b ds fun d hd => (h d hd).len
  omega
theorem sm_dig {i : Int} (h : Dig i) : Sm 0 1 (.int i) := ⟨(show_int h).1, Nat.zero_le _, (show_int h).2⟩
theorem sm_bl (b : Bool) : Sm 0 5 (.bool b) := ⟨(show_bool b).1, Nat.zero_le _, (show_bool b).2⟩
/-- few small ints -/
def SmI (w : List Int) : Prop := w.length ≤ 20 ∧ ∀ x ∈ w, Dig x
theorem sm_ints {w : List Int} (h : ∀ x ∈ w, Dig x) : ∀ d ∈ w.map PyData.int, Sm 0 1 d := by
  intro d hd
  obtain ⟨x, hx, rfl⟩ := List.mem_map.mp hd
  exact sm_dig (h x hx)
theorem sm_dT {w : List Int} (h : SmI w) : Sm 2 400 (dT w) := by
  refine (sm_tuple (sm_ints h.2)).mono (by decide) ?_
  have := h.1
  rw [List.length_map]
  omega
/-- a value that is small data -/
def Nice (K : PySem.W.Frag) (P : Addr → Prop) (n b : Nat) (H : Hp) (v : V) : Prop := ∃ d, Dq K P H v d ∧ Sm n b d
section
variable {K : PySem.W.Frag} {P : Addr → Prop} {n b : Nat} {H H' : Hp} {v : V}
theorem Nice.mono {m c : Nat} (h : Nice K P n b H v) (h1 : n ≤ m) (h2 : b ≤ c) : Nice K P m c H v := let ⟨d, a, z⟩ := h; ⟨d, a, z.mono h1 h2⟩
theorem Nice.imp {P' : Addr → Prop} (s : ∀ a xs, H a = some (.lst xs) → P a → P' a) (h : Nice K P n b H v) : Nice K P' n b H v := let ⟨d, a, z⟩ := h; ⟨d, a.imp s, z⟩
end
theorem SmI.sub {w v : List Int} (h : SmI w) (hl : v.length ≤ w.length) (hm : ∀ x ∈ v, x ∈ w) : SmI v := ⟨Nat.le_trans hl h.1, fun x hx => h.2 x (hm x hx)⟩
end Ew
namespace Ew
open PySem PySem.Spec PyProof.Rows L2
def top (i : Nat) : Stmt := PySem.Challenge.pw_eachworkread_k11_chains_and_closed_sets.main.body.getD i (.Pass ⟨0, 0, 0, 0⟩)
abbrev sFeed : Stmt := (top 28)
abbrev sTake : Stmt := (top 29)
abbrev sPick : Stmt := (top 30)
def spFeed (K : PySem.W.Frag) : Sp := fun vs H Q _ => ∃ (a : Addr) (ns : List Int) (k : Int), vs = [.ref a, .int k] ∧ SqL K H a (ns.map V.int) ∧ ns.length ≤ 63 ∧ 0 ≤ k ∧ k < 10 ∧
  ∀ H' p, Same H H' → H p = none → FeedAt H' p → Q (.ref p) H'
def spTake : Sp := fun vs H Q _ => ∃ (f : Addr) (m : Int), vs = [.ref f, .int m] ∧ FeedAt H f ∧ 0 < m ∧ m < 1000 ∧ ∀ H' r, Ext1 f H H' → 0 ≤ r → r < m → Q (.int r) H'
def spPick (K : PySem.W.Frag) : Sp := fun vs H Q _ => ∃ (f l : Addr) (xs : List V), vs = [.ref f, .ref l] ∧ FeedAt H f ∧ SqL K H l xs ∧ l ≠ f ∧ 0 < xs.length ∧ xs.length < 1000 ∧ ∀ H' v, Ext1 f H H' → v ∈ xs → Q v H'
section
variable {P : Program} {w : World} {K : PySem.W.Frag} {mg : Str → Option Value} {base : Heap}
theorem scFeed : FnScope ["script", "k", "seed", "digits"] ["script", "k"] (defScope sFeed) := ⟨rfl, rfl, rfl, by decide +kernel, rfl, by decide +kernel, by decide +kernel⟩
theorem cut_le (xs : List V) (a b : Option Int) : (cutV xs a b).length ≤ xs.length := by
  unfold cutV
  rw [List.length_take, List.length_drop]
  omega
theorem ok_feed {f : Addr} {fd : FuncData} (F : Fun K "_law_feed" "_law_feed" sFeed f fd) (B : Bi mg) : FnOk P w K mg base CX0 1 f fd ["script", "k"] (spFeed K) := by
  refine F.ok scFeed (fun vs H Q E h => ?_) (fun cdv A outer s H vs Q E hr h => ?_)
  · obtain ⟨a, ns, k, rfl, _⟩ := h
    rfl
  · obtain ⟨a, ns, k, rfl, hS, hl, h0, h10, q⟩ := h
    refine ⟨_, pss_cons (ps_set (i := 2) scFeed.nd rfl (.inl rfl)
        (pe_ix ix_list (pe_op op_cat (pe_callTy call_list_of (by rfl) B.list (by decide +kernel) (pa_cons (pe_slice sl_list (pv 0) (po_some (pv 1)) (po_some (pe_op op_add (pv 1) pe_int))) pa_nil))
          (pe_lst (pa_cons (pe_op op_add (pe_op op_mul pe_int (pv 1)) pe_int) pa_nil))) pe_int (fun _ _ => rfl)))
      (pss_cons (ps_set (i := 3) scFeed.nd rfl (.inl rfl) (pe_callB (call_max2 rfl) (by rfl) B.max (by decide +kernel) (pa_cons pe_int (pa_cons
          (pe_op op_sub (pe_callB call_abs (by rfl) B.abs (by decide +kernel) (pa_cons (pv 2) pa_nil)) (pe_op op_pow pe_int pe_int)) pa_nil))))
      (pss_one (ps_ret (pe_lst (pa_cons (pv 3) (pa_cons (pe_op op_mod (pe_callTy call_int1 (by rfl) B.int (by decide +kernel) (pa_cons
          (pe_op op_add (pe_op op_add (pe_op op_mul (pe_op op_mod (pe_callTy call_int1 (by rfl) B.int (by decide +kernel) (pa_cons (pe_callB call_abs (by rfl) B.abs (by decide +kernel) (pa_cons (pv 2) pa_nil)) pa_nil)) pe_int) pe_int)
            (pe_op op_mul pe_int (pv 1))) pe_int) pa_nil)) pe_int) pa_nil)))))), ?_⟩
    refine ⟨_, rfl, _, rfl, k, rfl, _, rfl, _, _, rfl, rfl, _, rfl, a, _, rfl, hS, fun c nc => ?_⟩
    have s1 : Same H (upd H c (.lst (cutV (ns.map V.int) (some k) (some (k + 1))))) := sameU nc
    have hc : (cutV (ns.map V.int) (some k) (some (k + 1))).length ≤ 63 := Nat.le_trans (cut_le _ _ _) (by rw [List.length_map]; exact hl)
    have hint : ∀ v ∈ cutV (ns.map V.int) (some k) (some (k + 1)), ∃ z, v = V.int z := by
      intro v hv
      unfold cutV at hv
      have := List.mem_of_mem_drop (List.mem_of_mem_take hv)
      obtain ⟨z, _, e⟩ := List.mem_map.mp this
      exact ⟨z, e.symm⟩
    generalize cutV (ns.map V.int) (some k) (some (k + 1)) = cs at *
    refine ⟨c, _, rfl, .inl (.inl (.inl upd_same)), fun l nl => ?_⟩
    refine ⟨_, rfl, 71, k, rfl, rfl, .inl ⟨by decide, by decide⟩, _, _, rfl, rfl, (by show 1 ≤ sizeLine; decide), fun m nm => ?_⟩
    have nlm : l ≠ m := fun e => by rw [e] at nm; rw [← e, upd_same] at nm; cases nm
    refine ⟨l, m, cs, _, rfl, rfl, (by rw [upd_ne nlm]; exact upd_same), upd_same, (szL (by show cs.length + 1 ≤ _; omega)), fun r nr => ?_⟩
    have sA : Same H (upd (upd (upd H c (.lst cs)) l (.lst cs)) m (.lst [V.int (71 * k + 23)])) := s1.trans ((sameU nl).trans (sameU nm))
    obtain ⟨z, hz⟩ : ∃ z, (cs ++ [V.int (71 * k + 23)])[0]? = some (V.int z) := by
      cases cs with
      | nil => exact ⟨_, rfl⟩
      | cons x t =>
        obtain ⟨z, e⟩ := hint x (by simp)
        exact ⟨z, by rw [e]; rfl⟩
    refine ⟨r, _, 0, _, rfl, rfl, .inl (.inl upd_same), atI_nat (j := 0) hz, ?_⟩
    have sB : Same H (upd (upd (upd (upd H c (.lst cs)) l (.lst cs)) m (.lst [V.int (71 * k + 23)])) r (.lst (cs ++ [V.int (71 * k + 23)]))) := sA.trans (sameU nr)
    generalize upd (upd (upd (upd H c (.lst cs)) l (.lst cs)) m (.lst [V.int (71 * k + 23)])) r (.lst (cs ++ [V.int (71 * k + 23)])) = H2 at *
    refine ⟨_, rfl, z, rfl, 10, 18, rfl, rfl, ⟨by decide, by decide, by decide⟩, _, _, rfl, rfl, _, _, rfl, ?_⟩
    refine ⟨_, rfl, _, rfl, z, rfl, .inl ⟨_, rfl, _, _, rfl, rfl, (by show (0 : Int) < 1000003; decide), _, _, rfl, rfl, .inr ⟨by decide, by decide⟩, _, rfl, 31, k, rfl, rfl, .inl ⟨by decide, by decide⟩, _, _, rfl, rfl, _, _, rfl, rfl, .inl ⟨_, rfl, _, _, rfl, rfl, (by show (0 : Int) < 1000033; decide), (by show 2 ≤ sizeLine; decide), fun p np => ?_⟩⟩⟩
    exact q _ p (sB.trans (sameU np)) (sB.free np) ⟨_, _, upd_same⟩
theorem scTake : FnScope ["feed", "many", "digit"] ["feed", "many"] (defScope sTake) := ⟨rfl, rfl, rfl, by decide +kernel, rfl, by decide +kernel, by decide +kernel⟩
theorem ok_take {f : Addr} {fd : FuncData} (F : Fun K "_law_take" "_law_take" sTake f fd) (B : Bi mg) : FnOk P w K mg base CX0 1 f fd ["feed", "many"] spTake := by
  refine F.ok scTake (fun vs H Q E h => ?_) (fun cdv A outer s H vs Q E hr h => ?_)
  · obtain ⟨a, m, rfl, _⟩ := h
    rfl
  · obtain ⟨a, m, rfl, ⟨d, z, hF⟩, m0, m1, q⟩ := h
    refine ⟨_, pss_cons (ps_if (pt_cmpR op_gt (pe_ix ix_list (pv 0) pe_int (fun _ _ => rfl)) pe_int (nomark _))
        (pss_cons (ps_set (i := 2) scTake.nd rfl (.inl rfl) (pe_op op_mod (pe_callTy call_int1 (by rfl) B.int (by decide +kernel) (pa_cons (pe_ix ix_list (pv 0) pe_int (fun _ _ => rfl)) pa_nil)) (pv 1)))
        (pss_cons (ps_asg (pe_op op_fdiv (pe_ix ix_list (pv 0) pe_int (fun _ _ => rfl)) (pv 1)) (pg_sub (pv 0) pe_int set_list)) (pss_one (ps_ret (pv 2))))) pss_nil)
      (pss_cons (ps_asg (pe_op op_mod (pe_callTy call_int1 (by rfl) B.int (by decide +kernel) (pa_cons (pe_op op_add (pe_op op_mul (pe_ix ix_list (pv 0) pe_int (fun _ _ => rfl)) pe_int) pe_int) pa_nil)) pe_int) (pg_sub (pv 0) pe_int set_list))
      (pss_one (ps_ret (pe_op op_mod (pe_callTy call_int1 (by rfl) B.int (by decide +kernel) (pa_cons (pe_op op_fdiv (pe_ix ix_list (pv 0) pe_int (fun _ _ => rfl)) pe_int) pa_nil)) (pv 1))))), ?_⟩
    refine ⟨_, rfl, a, _, 0, .int d, rfl, rfl, .inl (.inl hF), rfl, _, _, rfl, rfl, _, rfl, ite2 (fun _ => ?_) (fun _ => ?_)⟩
    · refine ⟨_, rfl, a, _, 0, .int d, rfl, rfl, .inl (.inl hF), rfl, .inl ⟨_, rfl, _, rfl, d, m, rfl, rfl, m0, ?_⟩⟩
      refine ⟨_, rfl, a, _, 0, .int d, rfl, rfl, .inl (.inl hF), rfl, _, rfl, d, m, rfl, rfl, ⟨m0, by omega⟩, _, rfl, a, _, 0, 0, rfl, rfl, hF, rfl, _, rfl, ?_⟩
      exact q _ _ (Ext1.put ⟨_, _, hF⟩) (Int.emod_nonneg _ (by omega)) (Int.emod_lt_of_pos _ m0)
    · refine ⟨_, rfl, a, _, 1, .int z, rfl, rfl, .inl (.inl hF), rfl, z, 69069, rfl, rfl, .inr ⟨by decide, by decide⟩, _, _, rfl, rfl, .inl ⟨_, rfl, _, _, rfl, rfl, (by show (0 : Int) < 4294967311; decide), _, rfl, a, _, 1, 1, rfl, rfl, hF, rfl, ?_⟩⟩
      refine ⟨_, rfl, a, _, 1, _, rfl, rfl, .inl (.inl upd_same), rfl, _, 65536, rfl, rfl, ⟨by decide, by decide⟩, .inl ⟨_, rfl, _, rfl, _, m, rfl, rfl, m0, ?_⟩⟩
      exact q _ _ (Ext1.put ⟨_, _, hF⟩) (Int.emod_nonneg _ (by omega)) (Int.emod_lt_of_pos _ m0)
theorem scPick : FnScope ["feed", "some"] ["feed", "some"] (defScope sPick) := ⟨rfl, rfl, rfl, by decide +kernel, rfl, by decide +kernel, by decide +kernel⟩
theorem ok_pick {f fT : Addr} {fd fdT : FuncData} (F : Fun K "_law_pick" "_law_pick" sPick f fd) (FT : Fun K "_law_take" "_law_take" sTake fT fdT) (bT : Binds K fdT ["feed", "many"] []) (gT : mg "_law_take" = some (.ref fT)) (B : Bi mg) : FnOk P w K mg base CX0 2 f fd ["feed", "some"] (spPick K) := by
  have GT : FnOk P w K mg base CX0 1 fT fdT ["feed", "many"] spTake := ok_take FT B
  refine F.ok scPick (fun vs H Q E h => ?_) (fun cdv A outer s H vs Q E hr h => ?_)
  · obtain ⟨a, l, xs, rfl, _⟩ := h
    rfl
  · obtain ⟨a, l, xs, rfl, hF, hL, nl, x0, x1, q⟩ := h
    refine ⟨_, pss_one (ps_ret (pe_ix ix_list (pv 1) (pe_call GT hr (by rfl) gT FT.kp bT .nil pass0 (pa_cons (pv 0) (pa_cons (pe_callB call_len_seq (by rfl) B.len PySem.boot_len (pa_cons (pv 1) pa_nil)) pa_nil))) (fun _ _ => rfl))), ?_⟩
    refine ⟨_, rfl, _, rfl, _, rfl, l, xs, rfl, .inl hL, a, _, rfl, hF, (by omega), (by omega), fun H1 r e1 r0 r1 => ?_⟩
    obtain ⟨j, rfl⟩ : ∃ j : Nat, r = (j : Int) := ⟨r.toNat, by omega⟩
    have hj : j < xs.length := by omega
    exact ⟨l, xs, (j : Int), xs[j], rfl, rfl, e1.sqL nl hL, atI_nat (by simp [hj]), q _ _ e1 (List.getElem_mem _)⟩
end
end Ew
namespace Ew
open PySem PySem.Spec PyProof.Rows L2
abbrev sRow : Stmt := (top 31)
def spRow (K : PySem.W.Frag) : Sp := fun vs H Q _ => ∃ (f : Addr) (v : V) (r : Int × List Int), vs = [.ref f, v] ∧ FeedAt H f ∧ RdT K H v r ∧ 0 ≤ r.1 ∧ r.1 ≤ 6 ∧ r.2.Pairwise (· < ·) ∧ r.2.length ≤ 60 ∧
  ∀ H' p w, Ext1 f H H' → H p = none → H' p = some (.tup (w.map V.int)) → RowOk r w → Q (.ref p) H'
theorem perm_get {α : Type} {rs : List α} {k : Nat} (h : k < rs.length) : rs.Perm (rs[k] :: rs.eraseIdx k) := by
  induction rs generalizing k with
  | nil => simp at h
  | cons a l ih =>
    cases k with
    | zero => simp
    | succ k =>
      have h' : k < l.length := by simpa using h
      have := ih h'
      simp only [List.getElem_cons_succ, List.eraseIdx_cons_succ]
      exact ((List.Perm.cons a this).trans (List.Perm.swap _ _ _))
theorem map_eraseIdx' {α β : Type} (g : α → β) : ∀ (l : List α) (k : Nat), (l.map g).eraseIdx k = (l.eraseIdx k).map g
  | [], _ => by simp
  | a :: l, 0 => by simp
  | a :: l, k + 1 => by simp [map_eraseIdx' g l k]
theorem lt_of_le_nodup {l : List Int} (h : l.Pairwise (· ≤ ·)) (n : l.Nodup) : l.Pairwise (· < ·) := by
  have n' : l.Pairwise (· ≠ ·) := n
  have := h.and n'
  exact this.imp fun ⟨h1, h2⟩ => by omega
section
variable {P : Program} {w : World} {K : PySem.W.Frag} {mg : Str → Option Value} {base : Heap}
theorem scRow : FnScope ["feed", "reader", "limit", "may", "rest", "found", "turn"] ["feed", "reader"] (defScope sRow) := ⟨rfl, rfl, rfl, by decide +kernel, rfl, by decide +kernel, by decide +kernel⟩
theorem ok_row {f fT : Addr} {fd fdT : FuncData} (F : Fun K "_law_row" "_law_row" sRow f fd) (FT : Fun K "_law_take" "_law_take" sTake fT fdT) (bT : Binds K fdT ["feed", "many"] []) (gT : mg "_law_take" = some (.ref fT)) (B : Bi mg) :
    FnOk P w K mg base CX0 2 f fd ["feed", "reader"] (spRow K) := by
  have GT : FnOk P w K mg base CX0 1 fT fdT ["feed", "many"] spTake := ok_take FT B
  refine F.ok scRow (fun vs H Q E h => ?_) (fun cdv A outer s H vs Q E hr h => ?_)
  · obtain ⟨a, v, r, rfl, _⟩ := h
    rfl
  · obtain ⟨a, v, ⟨lim, may⟩, rfl, hF, ⟨t, m, rfl, hT, hM⟩, l0, l6, hp, hlen, q⟩ := h
    replace hlen : may.length ≤ 60 := hlen
    replace l0 : 0 ≤ lim := l0
    replace l6 : lim ≤ 6 := l6
    replace hp : may.Pairwise (· < ·) := hp
    refine ⟨_, pss_cons (ps_asg (pv 1) (pg_tup (by rfl) (pgs_cons (pg_name (i := 2) scRow.nd rfl (.inl rfl)) (pgs_cons (pg_name (i := 3) scRow.nd rfl (.inl rfl)) pgs_nil))))
      (pss_cons (ps_par (i := 4) (j := 5) (by rfl) scRow.nd rfl rfl (by decide) rfl rfl (pa_cons (pe_callTy call_list_of (by rfl) B.list (by decide +kernel) (pa_cons (pv 3) pa_nil)) (pa_cons (pe_lst pa_nil) pa_nil)) (by rfl))
      (pss_cons (ps_for PassesOwn.never rfl (pi_range1 rfl B.range (pa_cons (pe_call GT hr (by rfl) gT FT.kp bT .nil pass0 (pa_cons (pv 0) (pa_cons (pe_op op_add pe_int (pe_callB (call_min2 rfl) (by rfl) B.min (by decide +kernel) (pa_cons (pv 2) (pa_cons (pe_callB call_len_seq (by rfl) B.len PySem.boot_len (pa_cons (pv 3) pa_nil)) pa_nil)))) pa_nil))) pa_nil))
          (pg_name (i := 6) scRow.nd rfl (.inl rfl))
          (pss_one (ps_expr (pe_bm PySem.F.plainAttrs_list PySem.F.slot_list_append PySem.F.type_list_append mt_append (pv 5) (pa_cons
            (pe_bm PySem.F.plainAttrs_list PySem.F.slot_list_pop PySem.F.type_list_pop mt_popAt (pv 4) (pa_cons (pe_call GT hr (by rfl) gT FT.kp bT .nil pass0 (pa_cons (pv 0) (pa_cons (pe_callB call_len_seq (by rfl) B.len PySem.boot_len (pa_cons (pv 4) pa_nil)) pa_nil))) pa_nil)) pa_nil)))))
      (pss_one (ps_ret (pe_callTy call_tuple_of (by rfl) B.tuple (by decide +kernel) (pa_cons (pe_callB cr_sorted (by rfl) B.sorted (by decide +kernel) (pa_cons (pv 5) pa_nil)) pa_nil)))))), ?_⟩
    -- limit, may = reader
    refine ⟨_, rfl, t, _, rfl, hT, rfl, _, _, rfl, _, _, rfl, rfl, ?_⟩
    -- rest, found
    refine ⟨_, rfl, m, _, rfl, .inr hM, fun R nR => ⟨Nat.zero_le _, fun Fd nFd => ⟨_, _, rfl, ?_⟩⟩⟩
    have nFd0 : H Fd = none := (sameU nR).free nFd
    have nFR : Fd ≠ R := fun e => by rw [e, upd_same] at nFd; cases nFd
    have e0 : Ext1 a H (upd (upd H R (.lst (may.map V.int))) Fd (.lst [])) := Ext1.new (Ext1.new (.refl hF) nR) nFd
    have fR : R ≠ a := hF.ne nR
    have fF : Fd ≠ a := hF.ne nFd0
    -- range(take(feed, 1 + min(limit, len(may))))
    refine ⟨_, rfl, _, rfl, _, rfl, m, _, rfl, .inr (e0.sqT hF hM), lim, _, rfl, _, _, rfl, rfl, a, _, rfl, e0.feed, ?_, ?_, fun H1 n e1 n0 n1 => ?_⟩
    · rw [List.length_map]; split <;> omega
    · rw [List.length_map]; split <;> omega
    rw [List.length_map] at n1
    replace n1 : n < 1 + (if (may.length : Int) < lim then (may.length : Int) else lim) := n1
    have n2 : n ≤ lim ∧ n ≤ may.length := by split at n1 <;> omega
    refine ⟨n, rfl, by omega, by omega, for_range (lo := 0) (n := n.toNat) (fun i σ H' => ∃ (rs fs : List Int) (y : Option V), σ = [some (.ref a), some (.ref t), some (.int lim), some (.ref m), some (.ref R), some (.ref Fd), y] ∧ (fs ++ rs).Perm may ∧ fs.length = i ∧
        H' R = some (.lst (rs.map V.int)) ∧ H' Fd = some (.lst (fs.map V.int)) ∧ Ext1 a H H') ⟨may, [], none, rfl, List.Perm.refl _, rfl, ?_, ?_, e0.trans e1⟩ ?_ ?_⟩
    · exact e1.1 _ _ fR (by rw [upd_ne nFR.symm]; exact upd_same)
    · exact e1.1 _ _ fF upd_same
    · rintro i σ H' hi ⟨rs, fs, y, rfl, pm, hl, hR, hFd, ex⟩
      have hsz : fs.length + rs.length = may.length := by rw [← List.length_append]; exact pm.length_eq
      refine ⟨_, rfl, .inl ⟨rfl, _, .inl (.inl hFd)⟩, ?_⟩
      refine ⟨_, rfl, .inl ⟨rfl, _, .inl (.inl hR)⟩, _, rfl, _, rfl, R, _, rfl, .inl (.inl (.inl hR)), a, _, rfl, ex.feed, by rw [List.length_map]; omega, by rw [List.length_map]; omega, fun H2 k e2 k0 k1 => ?_⟩
      rw [List.length_map] at k1
      have hR2 := e2.1 _ _ fR hR
      have hF2 := e2.1 _ _ fF hFd
      obtain ⟨j, rfl⟩ : ∃ j : Nat, k = (j : Int) := ⟨k.toNat, by omega⟩
      have hj : j < rs.length := by omega
      refine ⟨R, _, (j : Int), j, .int rs[j], rfl, rfl, hR2, by omega, by omega, ?_, by simp [hj], ?_⟩
      · rw [List.length_map]
        unfold seqIndex?
        simp
        omega
      · refine ⟨Fd, _, _, rfl, rfl, (by rw [upd_ne nFR]; exact hF2), szl (by rw [List.length_map]; omega), ?_⟩
        refine ⟨rs.eraseIdx j, fs ++ [rs[j]], some (.int (0 + (i : Int))), rfl, ?_, by simp [hl], ?_, ?_, ?_⟩
        · rw [List.append_assoc]
          exact (List.Perm.append_left fs (perm_get hj).symm).trans pm
        · rw [upd_ne nFR.symm, upd_same, map_eraseIdx']
        · rw [upd_same, List.map_append]
          rfl
        · exact ((ex.trans e2).own nR fR).own nFd0 fF (.lst (by rw [upd_ne nFR]; exact hF2))
    · rintro σ H' ⟨rs, fs, y, rfl, pm, hl, hR, hFd, ex⟩
      have nd : may.Nodup := hp.imp fun h => by omega
      have hsz : fs.length + rs.length = may.length := by rw [← List.length_append]; exact pm.length_eq
      refine ⟨_, rfl, Fd, fs, rfl, .inl (.inl hFd), by omega, fun ns' p pm2 so np => ⟨p, _, rfl, .inl ⟨.inl (.inl upd_same), fun l nl => ?_⟩⟩⟩
      have ex2 : Ext1 a H (upd (upd H' p (.lst (ns'.map V.int))) l (.tup (ns'.map V.int))) := (ex.new np).new nl
      refine q _ l ns' ex2 ((ex.new np).free nl) upd_same ⟨?_, ?_, ?_⟩
      · have : (fs ++ rs).Nodup := pm.nodup_iff.mpr nd
        have nf : fs.Nodup := (List.nodup_append.mp this).1
        exact lt_of_le_nodup so (pm2.nodup_iff.mpr nf)
      · intro x hx
        exact pm.mem_iff.mp (List.mem_append_left _ (pm2.mem_iff.mp hx))
      · rw [pm2.length_eq, hl]
        show ((n.toNat : Nat) : Int) ≤ lim
        omega
end
end Ew
namespace Ew
open PySem PySem.Spec PyProof.Rows L2
abbrev sRows : Stmt := (top 32)
abbrev sTimes : Stmt := (top 33)
def RdsOk (rs : List (Int × List Int)) : Prop := ∀ r ∈ rs, 0 ≤ r.1 ∧ r.1 ≤ 6 ∧ r.2.Pairwise (· < ·) ∧ r.2.length ≤ 60
def spRows (K : PySem.W.Frag) : Sp := fun vs H Q _ => ∃ (f R ab : Addr) (rs : List (Int × List Int)) (as : List Int), vs = [.ref f, .ref R, .ref ab] ∧ FeedAt H f ∧ R ≠ f ∧ RdL K H R rs ∧ RdsOk rs ∧ rs.length ≤ 60 ∧ SqT K H ab (as.map V.int) ∧
  ∀ H' p vs ws, Ext1 f H H' → H p = none → H' p = some (.lst vs) → Paired (RowT K H') vs ws → Paired RowOk rs ws → (∀ i w, ws[i]? = some w → ((i : Nat) : Int) ∈ as → w = []) → Q (.ref p) H'
theorem flat_ints (l : List Int) : (l.map V.int).all flatV = true := by
  rw [List.all_map]
  exact List.all_eq_true.mpr fun _ _ => rfl
theorem inV_int (i : Int) (l : List Int) : inV (.int i) (l.map V.int) = decide (i ∈ l) := by
  unfold inV
  rw [List.any_map]
  induction l with
  | nil => rfl
  | cons a l ih =>
    rw [List.any_cons, ih]
    have e : ((fun y => eqV y (V.int i)) ∘ V.int) a = decide (a = i) := by
      show eqV (V.int a) (V.int i) = _
      by_cases h : a = i
      · subst h
        simp [eqV]
      · simp [eqV, h]
    rw [e]
    by_cases h : a = i
    · subst h; simp
    · have h' : ¬ i = a := fun e => h e.symm
      simp [h, h']
theorem Paired.len {α β : Type} {R : α → β → Prop} : ∀ {xs : List α} {ys : List β}, Paired R xs ys → xs.length = ys.length
  | _, _, .nil => rfl
  | _, _, .cons _ t => by simp [Paired.len t]
theorem Paired.take {α β : Type} {R : α → β → Prop} : ∀ {xs : List α} {ys : List β} (n : Nat), Paired R xs ys → Paired R (xs.take n) (ys.take n)
  | _, _, 0, _ => .nil
  | _, _, _ + 1, .nil => .nil
  | _, _, n + 1, .cons r t => .cons r (Paired.take n t)
section
variable {P : Program} {w : World} {K : PySem.W.Frag} {mg : Str → Option Value} {base : Heap}
theorem scRows : FnScope ["feed", "readers", "absent", "at", "reader"] ["feed", "readers", "absent"] (defScope sRows) := ⟨rfl, rfl, rfl, by decide +kernel, rfl, by decide +kernel, by decide +kernel⟩
theorem ok_rows {f fT fR : Addr} {fd fdT fdR : FuncData} (F : Fun K "_law_rows" "_law_rows" sRows f fd) (FT : Fun K "_law_take" "_law_take" sTake fT fdT) (bT : Binds K fdT ["feed", "many"] []) (gT : mg "_law_take" = some (.ref fT))
    (FR : Fun K "_law_row" "_law_row" sRow fR fdR) (bR : Binds K fdR ["feed", "reader"] []) (gR : mg "_law_row" = some (.ref fR)) (B : Bi mg) :
    FnOk P w K mg base CX0 3 f fd ["feed", "readers", "absent"] (spRows K) := by
  have GR : FnOk P w K mg base CX0 2 fR fdR ["feed", "reader"] (spRow K) := ok_row FR FT bT gT B
  refine F.ok scRows (fun vs H Q E h => ?_) (fun cdv A outer s H vs Q E hr h => ?_)
  · obtain ⟨a, R, ab, rs, as, rfl, _⟩ := h
    rfl
  · obtain ⟨a, R, ab, rs, as, rfl, hF, nR, ⟨us, hL, hP⟩, hok, hlen, hA, q⟩ := h
    refine ⟨_, pss_one (ps_ret (pe_lc (own := [("at", 3), ("reader", 4)]) (g := gTup K 2 (gCons (gName 3) (gCons (gName 4) gNil))) (tt := tYes) (te := tIf (tTest (tOp (rIn K false) (tVar 3) (tVar 2))) (tTup tNil) (tCall (spRow K) [] E0 (tCons (tVar 0) (tCons (tVar 4) tNil)))) rfl scRows.nd (pi_enum (by rfl) B.enumerate (pa_cons (pv 1) pa_nil)) (blkOk_by (own := [("at", 3), ("reader", 4)]) (N := ["feed", "readers", "absent", "at", "reader"]) (sc := defScope sRows) (by decide +kernel))
      (fun _ _ _ _ _ => pg_tup (by rfl) (pgs_cons (pg_name (i := 3) scRows.nd rfl (.inl rfl)) (pgs_cons (pg_name (i := 4) scRows.nd rfl (.inl rfl)) pgs_nil))) (fun _ _ _ _ _ => pts_nil)
      (fun _ _ _ _ _ => pe_ifExp (pt_cmpR op_in_seq (pv 3) (pv 2) (by rfl)) (pe_tup pa_nil) (pe_call GR hr (by rfl) gR FR.kp bR .nil pass0 (pa_cons (pv 0) (pa_cons (pv 4) pa_nil)))))), ?_⟩
    refine ⟨_, rfl, R, us, rfl, hL, fun D nD => ?_⟩
    have fD : D ≠ a := hF.ne nD
    refine lc_it (walk_enum (xs := us)) (fun i H' => ∃ (vs : List V) (ws : List (List Int)), Ext1 a H H' ∧ H' D = some (.lst vs) ∧ Paired (RowT K H') vs ws ∧ Paired RowOk (rs.take i) ws ∧ (∀ i w, ws[i]? = some w → ((i : Nat) : Int) ∈ as → w = []))
      ⟨[], [], (Ext1.refl hF).new nD, upd_same, .nil, .nil, fun i w e => by simp at e⟩ (fun i H' _ ⟨_, _, e, _⟩ => e.sqL nR hL) ?_ ?_
    · rintro i x H1 H2 hi ⟨vs, ws, e1, hD, p1, p2, p3⟩ ⟨T, x1, x2, rfl, nT, rfl, f1, f2⟩
      obtain ⟨r, hr2, rd⟩ := Paired.at1 hP f2
      have eT : Ext1 a H (upd H1 T (.tup [x1, x2])) := e1.new nT
      have sT : Same H1 (upd H1 T (.tup [x1, x2])) := sameU nT
      obtain rfl : V.int (i : Nat) = x1 := Option.some.inj f1
      refine ⟨T, _, rfl, .inl (.inl upd_same), rfl, _, _, rfl, _, _, rfl, rfl, rfl, ?_⟩
      have hlw : ws.length = i := by
        rw [← Paired.len p2, List.length_take]
        have := Paired.len hP
        omega
      have hlv : vs.length = i := by rw [Paired.len p1]; exact hlw
      have hil : i < 60 := by have := Paired.len hP; omega
      have hrm : r ∈ rs := List.mem_of_getElem? hr2
      obtain ⟨g1, g2, g3, g4⟩ := hok r hrm
      dsimp only [tYes]
      refine iteT ?_
      refine ⟨_, rfl, _, rfl, ab, _, rfl, .inr (eT.sqT hF hA), rfl, flat_ints as, _, rfl, ?_⟩
      have step : ∀ (H3 : Hp) (p : Addr) (w : List Int), Same (upd H1 T (.tup [V.int (i : Nat), x2])) H3 ∨ Ext1 a (upd H1 T (.tup [V.int (i : Nat), x2])) H3 → H3 p = some (.tup (w.map V.int)) → RowOk r w → (((i : Nat) : Int) ∈ as → w = []) →
          ∃ acc, H3 D = some (.lst acc) ∧ acc.length < sizeLine ∧ ∃ (vs : List V) (ws : List (List Int)), Ext1 a H (upd H3 D (.lst (acc ++ [.ref p]))) ∧ (upd H3 D (.lst (acc ++ [.ref p]))) D = some (.lst vs) ∧ Paired (RowT K (upd H3 D (.lst (acc ++ [.ref p])))) vs ws ∧ Paired RowOk (rs.take (i + 1)) ws ∧ (∀ i w, ws[i]? = some w → ((i : Nat) : Int) ∈ as → w = []) := by
        intro H3 p w hs hp ro hw
        have e3 : Ext1 a (upd H1 T (.tup [V.int (i : Nat), x2])) H3 := by
          rcases hs with hs | hs
          · exact .same eT.feed hs
          · exact hs
        have hD3 : H3 D = some (.lst vs) := e3.1 _ _ fD (sT _ _ hD)
        have hP3 : RowT K H3 (.ref p) w := ⟨p, rfl, .inl (.inl hp)⟩
        refine ⟨vs, hD3, szl (by omega), vs ++ [.ref p], ws ++ [w], (eT.trans e3).own nD fD, upd_same, ?_, ?_, ?_⟩
        · exact Paired.snoc (L2.Paired.mapP p1 fun _ _ z => RowT.upd hD3 ((z.same sT).ext e3 eT.feed)) (RowT.upd hD3 hP3)
        · rw [take_more hr2]
          exact Paired.snoc p2 ro
        · intro i' w' he hm
          rcases Nat.lt_or_ge i' ws.length with h | h
          · rw [List.getElem?_append_left h] at he
            exact p3 _ _ he hm
          · rw [List.getElem?_append_right h] at he
            have h0 : i' - ws.length = 0 := by
              cases hz : i' - ws.length with
              | zero => rfl
              | succ n => rw [hz] at he; simp at he
            rw [h0] at he
            have : w = w' := by simpa using he
            subst this
            have : i' = i := by omega
            subst this
            exact hw hm
      by_cases hin : ((i : Nat) : Int) ∈ as
      · have e : inV (V.int (i : Nat)) (as.map V.int) = true := by rw [inV_int]; exact decide_eq_true hin
        rw [e]
        refine iteT ⟨Nat.zero_le _, fun p np => ?_⟩
        exact step _ p [] (.inl (sameU np)) upd_same ⟨.nil, fun x hx => by simp at hx, by simpa using g1⟩ fun _ => rfl
      · have e : inV (V.int (i : Nat)) (as.map V.int) = false := by rw [inV_int]; exact decide_eq_false hin
        rw [e]
        refine iteF ⟨_, rfl, _, rfl, a, x2, r, rfl, eT.feed, (rd.ext eT hF), g1, g2, g3, g4, fun H3 p w e3 np hp ro => ?_⟩
        exact step _ p w (.inr e3) hp ro fun h => absurd h hin
    · rintro H' ⟨vs, ws, e1, hD, p1, p2, p3⟩
      rw [Paired.len hP, List.take_length] at p2
      exact q H' D vs ws e1 nD hD p1 p2 p3
end
end Ew
namespace Ew
open PySem PySem.Spec PyProof.Rows L2
/-- the scope of the comprehension that a def returns -/
def retScope (s : Stmt) : Scope := match defBody s with
  | [.Return (some (.ListComp _ _ sc _)) _] => sc
  | _ => { kind := .function, names := [], isGenerator := false, isCoroutine := false }
def times (ws : List (List Int)) (n : Nat) : List Int := (List.range n).map fun (k : Nat) => ((ws.filter fun r => decide (((k : Nat) : Int) ∈ r)).length : Int)
def spTimes (K : PySem.W.Frag) : Sp := fun vs H Q _ => ∃ (R : Addr) (us : List V) (ws : List (List Int)) (n : Nat), vs = [.ref R, .int n] ∧ SqL K H R us ∧ Paired (RowT K H) us ws ∧ ws.length ≤ 60 ∧ n ≤ 60 ∧
  ∀ H' p, Same H H' → H p = none → H' p = some (.lst ((times ws n).map V.int)) → Q (.ref p) H'
section
variable {P : Program} {w : World} {K : PySem.W.Frag} {mg : Str → Option Value} {base : Heap}
theorem scTimes : FnScope ["rows", "works", "work", "row"] ["rows", "works"] (defScope sTimes) := ⟨rfl, rfl, rfl, by decide +kernel, rfl, by decide +kernel, by decide +kernel⟩
theorem filter_take_snoc {α : Type} (g : α → Bool) {l : List α} {i : Nat} {x : α} (h : l[i]? = some x) : (l.take (i + 1)).filter g = (l.take i).filter g ++ (if g x = true then [x] else []) := by
  rw [take_more h, List.filter_append]
  by_cases e : g x = true
  · rw [if_pos e]; simp [e]
  · rw [if_neg e]; simp [e]
theorem same_own {H H1 : Hp} {D : Addr} {o : HO} (s : Same H H1) (n : H D = none) (hm : OwnAt H1 D := by first | exact .lst (by assumption) | exact .dK (by assumption) | exact .ins (by assumption)) : Same H (upd H1 D o) := sameOwn s n hm
theorem ok_times {f : Addr} {fd : FuncData} (F : Fun K "_law_times" "_law_times" sTimes f fd) (B : Bi mg) : FnOk P w K mg base CX0 1 f fd ["rows", "works"] (spTimes K) := by
  refine F.ok scTimes (fun vs H Q E h => ?_) (fun cdv A outer s H vs Q E hr h => ?_)
  · obtain ⟨R, us, ws, n, rfl, _⟩ := h
    rfl
  · obtain ⟨R, us, ws, n, rfl, hL, hP, hlen, hn, q⟩ := h
    refine ⟨_, pss_one (ps_ret (pe_lc (own := [("work", 2)]) (g := gName 2) (tt := tYes)
      (te := tCB (fun xs H Q => ∃ p ys, xs = [.ref p] ∧ (SqL K H p ys ∨ SqT K H p ys) ∧ Q (.int ys.length) H) (tCons (tLc (iList K (tVar 0)) (gName 3) (tTest (tOp (rIn K false) (tVar 2) (tVar 3))) (tVar 3) [3]) tNil))
      rfl scTimes.nd (pi_range1 rfl B.range (pa_cons (pv 1) pa_nil)) (blkOk_by (own := [("work", 2)]) (N := ["rows", "works", "work", "row"]) (sc := defScope sTimes) (by decide +kernel))
      (fun _ _ _ _ _ => pg_name (i := 2) scTimes.nd rfl (.inr rfl)) (fun _ _ _ _ _ => pts_nil)
      (fun _ _ _ _ _ => pe_callB call_len_seq (by rfl) B.len PySem.boot_len (pa_cons
        (pe_lc (own := [("row", 3)]) (g := gName 3) (tt := tTest (tOp (rIn K false) (tVar 2) (tVar 3))) (te := tVar 3) rfl scTimes.nd (pi_list (pv 0)) (blkOk_by (own := [("row", 3)]) (N := ["rows", "works", "work", "row"]) (sc := relS (retScope sTimes) (defScope sTimes)) (by decide +kernel))
          (fun _ _ _ _ _ => pg_name (i := 3) scTimes.nd rfl (.inl rfl)) (fun _ _ _ _ _ => pts_one (pt_cmpR op_in_seq (pv 2) (pv 3) (by rfl))) (fun _ _ _ _ _ => pv 3)) pa_nil)))), ?_⟩
    have tk : ∀ i, i < n → (times ws n)[i]? = some (((ws.filter fun r => decide (((i : Nat) : Int) ∈ r)).length : Nat) : Int) := fun i hi => by
      unfold times
      rw [List.getElem?_map, List.getElem?_range hi]
      rfl
    have tl : (times ws n).length = n := by
      unfold times
      rw [List.length_map, List.length_range]
    refine ⟨_, rfl, n, rfl, by omega, by omega, fun D nD => ?_⟩
    refine lc_range (lo := 0) (n := ((n : Nat) : Int).toNat) (fun i H' => Same H H' ∧ H' D = some (.lst (((times ws n).take i).map V.int))) ⟨sameU nD, upd_same⟩ ?_ ?_
    · rintro i H1 hi ⟨s1, hD⟩
      have hi' : i < n := by simpa using hi
      refine ⟨rfl, ?_⟩
      dsimp only [tYes]
      refine iteT ?_
      refine ⟨_, rfl, R, rfl, ⟨_, s1.seq hL⟩, fun D2 nD2 => ?_⟩
      refine lc_list (K := K) (a := R) (xs := us) (fun j H' => ∃ vs, Same H1 H' ∧ H' D2 = some (.lst vs) ∧ vs.length = ((ws.take j).filter fun r => decide (((i : Nat) : Int) ∈ r)).length) ⟨[], sameU nD2, upd_same, rfl⟩ (fun j H' _ ⟨_, e, _⟩ => e.seq (s1.seq hL)) ?_ ?_
      · rintro j x H2 hx ⟨vs, s2, hD2, el⟩
        obtain ⟨r, hr2, t, rfl, hT⟩ := Paired.at1 hP hx
        have hT2 : SqT K H2 t (r.map V.int) := sameT s2 (sameT s1 hT)
        refine ⟨rfl, _, rfl, _, rfl, t, _, rfl, .inr hT2, rfl, flat_ints r, _, rfl, ?_⟩
        have ez : (0 : Int) + ((i : Nat) : Int) = ((i : Nat) : Int) := Int.zero_add _
        rw [ez, if_neg Bool.false_ne_true, inV_int]
        have st := filter_take_snoc (fun r => decide (((i : Nat) : Int) ∈ r)) hr2
        have hvl : vs.length ≤ 60 := by
          rw [el]
          refine Nat.le_trans (List.length_filter_le _ _) ?_
          rw [List.length_take]; omega
        refine ite2 (fun c => ?_) (fun c => ?_)
        · refine ⟨_, rfl, vs, hD2, szl (by omega), vs ++ [.ref t], same_own s2 nD2, upd_same, ?_⟩
          rw [st, if_pos c, List.length_append, List.length_append, el]
          rfl
        · refine ⟨vs, s2, hD2, ?_⟩
          rw [st, if_neg c, List.append_nil]
          exact el
      · rintro H2 ⟨vs, s2, hD2, el⟩
        have nd : D ≠ D2 := ne_of_none hD nD2
        refine ⟨D2, vs, rfl, .inl (.inl (.inl hD2)), _, s2 _ _ hD, szl (by rw [List.length_map, List.length_take]; omega), same_own (s1.trans s2) nD (.lst (s2 _ _ hD)), ?_⟩
        have el' : vs.length = (ws.filter fun r => decide (((i : Nat) : Int) ∈ r)).length := by
          rw [el, Paired.len hP, List.take_length]
        rw [upd_same, take_more (tk i hi'), List.map_append, el']
        rfl
    · rintro H' ⟨s1, hD⟩
      refine q H' D s1 nD ?_
      rw [hD]
      rw [List.take_of_length_le (by rw [tl]; exact Nat.le_of_eq (Int.toNat_natCast n).symm)]
end
end Ew
namespace Ew
open PySem PySem.Spec PyProof.Rows L2
abbrev sBook : Stmt := (top 34)
def RdsAt (n : Int) (rs : List (Int × List Int)) : Prop := ∀ r ∈ rs, RdOk n r
/-- the demands at A, the readers at R -/
structure BookAt (K : PySem.W.Frag) (H : Hp) (A R : Addr) (ds : List Int) (us : List V) (rs : List (Int × List Int)) : Prop where
  dem : H A = some (.lst (ds.map V.int))
  rd : H R = some (.lst us)
  rds : Paired (RdT K H) us rs
  n1 : 1 ≤ ds.length
  n6 : ds.length ≤ 6
  d6 : ∀ d ∈ ds, 0 ≤ d ∧ d ≤ 6
  r6 : rs.length ≤ 6
  ok : RdsAt ds.length rs
  ne : A ≠ R
def spBook (K : PySem.W.Frag) : Sp := fun vs H Q _ => ∃ (f : Addr) (mw mr : Int), vs = [.ref f, .int mw, .int mr] ∧ FeedAt H f ∧ 1 ≤ mw ∧ mw ≤ 6 ∧ 0 ≤ mr ∧ mr ≤ 6 ∧
  ∀ H' p A R ds us rs, Ext1 f H H' → H p = none → H A = none → H R = none → H' p = some (.lst [.ref A, .ref R]) → BookAt K H' A R ds us rs → p ≠ A → p ≠ R → ds.length ≤ mw → rs.length ≤ mr → Q (.ref p) H'
theorem mem_map_int {v : V} {l : List Int} (h : v ∈ l.map V.int) : ∃ i, v = .int i ∧ i ∈ l := by
  obtain ⟨i, h1, h2⟩ := List.mem_map.mp h
  exact ⟨i, h2.symm, h1⟩
theorem asc_len : ∀ {l : List Int} {lo n : Int}, l.Pairwise (· < ·) → (∀ x ∈ l, lo ≤ x ∧ x < n) → lo ≤ n → (l.length : Int) ≤ n - lo
  | [], lo, n, _, _, h => by simp; omega
  | x :: l, lo, n, hp, hb, h => by
    have hx := hb x (by simp)
    have hp' := List.pairwise_cons.mp hp
    have := asc_len (l := l) (lo := x + 1) (n := n) hp'.2 (fun y hy => ⟨by have := hp'.1 y hy; omega, (hb y (by simp [hy])).2⟩) (by omega)
    simp only [List.length_cons]
    omega
theorem Asc.len {n : Int} {l : List Int} (h : Asc n l) (hn : 0 ≤ n) : (l.length : Int) ≤ n := by
  have := asc_len h.1 h.2 hn
  omega
theorem rdsOk_of {n : Int} {rs : List (Int × List Int)} (h : RdsAt n rs) (h0 : 0 ≤ n) (h6 : n ≤ 6) : RdsOk rs := fun r hr => by
  obtain ⟨a, b, c⟩ := h r hr
  have := c.len h0
  exact ⟨a, b, c.1, by omega⟩
theorem times_len (ws : List (List Int)) (n : Nat) : (times ws n).length = n := by
  unfold times
  rw [List.length_map, List.length_range]
theorem times_le (ws : List (List Int)) (n : Nat) : ∀ d ∈ times ws n, 0 ≤ d ∧ d ≤ (ws.length : Int) := by
  intro d hd
  unfold times at hd
  obtain ⟨k, _, rfl⟩ := List.mem_map.mp hd
  have := List.length_filter_le (fun r => decide (((k : Nat) : Int) ∈ r)) ws
  omega
section
variable {P : Program} {w : World} {K : PySem.W.Frag} {mg : Str → Option Value} {base : Heap}
/-- what stands of the law's small defs -/
structure Low (K : PySem.W.Frag) (mg : Str → Option Value) : Prop where
  bi : Bi mg
  feed : ∃ f fd, Fun K "_law_feed" "_law_feed" sFeed f fd ∧ Binds K fd ["script", "k"] [] ∧ mg "_law_feed" = some (.ref f)
  take : ∃ f fd, Fun K "_law_take" "_law_take" sTake f fd ∧ Binds K fd ["feed", "many"] [] ∧ mg "_law_take" = some (.ref f)
  pick : ∃ f fd, Fun K "_law_pick" "_law_pick" sPick f fd ∧ Binds K fd ["feed", "some"] [] ∧ mg "_law_pick" = some (.ref f)
  row : ∃ f fd, Fun K "_law_row" "_law_row" sRow f fd ∧ Binds K fd ["feed", "reader"] [] ∧ mg "_law_row" = some (.ref f)
  rows : ∃ f fd, Fun K "_law_rows" "_law_rows" sRows f fd ∧ Binds K fd ["feed", "readers", "absent"] [] ∧ mg "_law_rows" = some (.ref f)
  times : ∃ f fd, Fun K "_law_times" "_law_times" sTimes f fd ∧ Binds K fd ["rows", "works"] [] ∧ mg "_law_times" = some (.ref f)
  book : ∃ f fd, Fun K "_law_book" "_law_book" sBook f fd ∧ Binds K fd ["feed", "most_works", "most_readers"] [] ∧ mg "_law_book" = some (.ref f)
theorem scBook : FnScope ["feed", "most_works", "most_readers", "works", "readers", "wide", "turn", "may", "work", "demands"] ["feed", "most_works", "most_readers"] (defScope sBook) := ⟨rfl, rfl, rfl, by decide +kernel, rfl, by decide +kernel, by decide +kernel⟩
theorem ok_book {f : Addr} {fd : FuncData} (F : Fun K "_law_book" "_law_book" sBook f fd) (L : Low K mg) : FnOk P w K mg base CX0 4 f fd ["feed", "most_works", "most_readers"] (spBook K) := by
  obtain ⟨B, _, ⟨fT, fdT, FT, bT, gT⟩, ⟨fP, fdP, FP, bP, gP⟩, ⟨fR, fdR, FR, bR, gR⟩, ⟨fS, fdS, FS, bS, gS⟩, ⟨fM, fdM, FM, bM, gM⟩, _⟩ := L
  have GT : FnOk P w K mg base CX0 1 fT fdT ["feed", "many"] spTake := ok_take FT B
  have GP : FnOk P w K mg base CX0 2 fP fdP ["feed", "some"] (spPick K) := ok_pick FP FT bT gT B
  have GS : FnOk P w K mg base CX0 3 fS fdS ["feed", "readers", "absent"] (spRows K) := ok_rows FS FT bT gT FR bR gR B
  have GM : FnOk P w K mg base CX0 1 fM fdM ["rows", "works"] (spTimes K) := ok_times FM B
  refine F.ok scBook (fun vs H Q E h => ?_) (fun cdv A outer s H vs Q E hr h => ?_)
  · obtain ⟨a, mw, mr, rfl, _⟩ := h
    rfl
  · obtain ⟨a, mw, mr, rfl, hF, w1, w6, r0, r6, q⟩ := h
    have hr1 : Room 1 _ := hr.mono (by decide)
    have hr2 : Room 2 _ := hr.mono (by decide)
    refine ⟨_, pss_cons (ps_par (i := 3) (j := 4) (by rfl) scBook.nd rfl rfl (by decide) rfl rfl (pa_cons (pe_op op_add pe_int (pe_call GT hr1 (by rfl) gT FT.kp bT .nil pass0 (pa_cons (pv 0) (pa_cons (pv 1) pa_nil)))) (pa_cons (pe_lst pa_nil) pa_nil)) (by rfl))
      (pss_cons (ps_set (i := 5) scBook.nd rfl (.inr rfl) (pe_call GT hr1 (by rfl) gT FT.kp bT .nil pass0 (pa_cons (pv 0) (pa_cons pe_int pa_nil))))
      (pss_cons (ps_for PassesOwn.never rfl (pi_range1 rfl B.range (pa_cons (pe_call GT hr1 (by rfl) gT FT.kp bT .nil pass0 (pa_cons (pv 0) (pa_cons (pe_op op_add (pv 2) pe_int) pa_nil))) pa_nil)) (pg_name (i := 6) scBook.nd rfl (.inl rfl))
        (pss_cons (ps_setLc (i := 7) (own := [("work", 8)]) (g := gName 8) (tt := tTest (tOp (rI0 fun i j => .bl (decide (i < j))) (tCall spTake [] E0 (tCons (tVar 0) (tCons (tC (.int 3)) tNil))) (tOp (rI0 fun i j => .int (i + j)) (tC (.int 1)) (tVar 5)))) (te := tVar 8)
            (by rfl) scBook.nd rfl rfl (sw_true rfl rfl rfl (by decide +kernel)) (pi_range1 rfl B.range (pa_cons (pv 3) pa_nil))
            (blkOk_by (own := [("work", 8)]) (N := ["feed", "most_works", "most_readers", "works", "readers", "wide", "turn", "may", "work", "demands"]) (sc := defScope sBook) (by decide +kernel))
            (fun _ _ _ _ _ => pg_name (i := 8) scBook.nd rfl (.inl rfl))
            (fun _ _ _ _ _ => pts_one (pt_cmpR op_lt (pe_call GT hr1 (by rfl) gT FT.kp bT .nil pass0 (pa_cons (pv 0) (pa_cons pe_int pa_nil))) (pe_op op_add pe_int (pv 5)) (nomark _))) (fun _ _ _ _ _ => pv 8))
        (pss_one (ps_expr (pe_bm PySem.F.plainAttrs_list PySem.F.slot_list_append PySem.F.type_list_append mt_append (pv 4) (pa_cons (pe_tup (pa_cons
            (pe_call GP hr2 (by rfl) gP FP.kp bP .nil pass0 (pa_cons (pv 0) (pa_cons (pe_lst (pa_cons pe_int (pa_cons pe_int (pa_cons pe_int (pa_cons pe_int (pa_cons pe_int (pa_cons pe_int (pa_cons pe_int (pa_cons pe_int (pa_cons pe_int (pa_cons pe_int pa_nil))))))))))) pa_nil)))
            (pa_cons (pe_callTy call_tuple_of (by rfl) B.tuple (by decide +kernel) (pa_cons (pv 7) pa_nil)) pa_nil))) pa_nil))))))
      (pss_cons (ps_set (i := 9) scBook.nd rfl (.inl rfl) (pe_call GM hr1 (by rfl) gM FM.kp bM .nil pass0 (pa_cons (pe_call GS hr (by rfl) gS FS.kp bS .nil pass0 (pa_cons (pv 0) (pa_cons (pv 4) (pa_cons (pe_tup pa_nil) pa_nil)))) (pa_cons (pv 3) pa_nil))))
      (pss_cons (ps_for PassesOwn.never rfl (pi_range1 rfl B.range (pa_cons (pe_call GP hr2 (by rfl) gP FP.kp bP .nil pass0 (pa_cons (pv 0) (pa_cons (pe_lst (pa_cons pe_int (pa_cons pe_int (pa_cons pe_int (pa_cons pe_int (pa_cons pe_int (pa_cons pe_int pa_nil))))))) pa_nil))) pa_nil)) (pg_name (i := 6) scBook.nd rfl (.inl rfl))
        (pss_one (ps_asg (pe_call GP hr2 (by rfl) gP FP.kp bP .nil pass0 (pa_cons (pv 0) (pa_cons (pe_lst (pa_cons pe_int (pa_cons pe_int (pa_cons pe_int (pa_cons pe_int (pa_cons pe_int (pa_cons pe_int pa_nil))))))) pa_nil)))
          (pg_sub (pv 9) (pe_call GT hr1 (by rfl) gT FT.kp bT .nil pass0 (pa_cons (pv 0) (pa_cons (pv 3) pa_nil))) set_list))))
      (pss_one (ps_ret (pe_lst (pa_cons (pv 9) (pa_cons (pv 4) pa_nil))))))))), ?_⟩
    refine ⟨_, rfl, _, rfl, a, mw, rfl, hF, by omega, by omega, fun H1 n e1 n0 n1 => ?_⟩
    obtain ⟨wn, ew⟩ : ∃ wn : Nat, 1 + n = (wn : Int) := ⟨(1 + n).toNat, by omega⟩
    refine ⟨_, _, rfl, rfl, Nat.zero_le _, fun R nR => ⟨.int wn, .ref R, by rw [← ew], ?_⟩⟩
    have hw1 : 1 ≤ wn := by omega
    have hw6 : wn ≤ 6 := by omega
    have hwm : (wn : Int) ≤ mw := by omega
    have nR0 : H R = none := e1.free nR
    have fR : R ≠ a := hF.ne nR0
    have e1' : Ext1 a H (upd H1 R (.lst [])) := e1.new nR
    refine ⟨_, rfl, a, 3, rfl, e1'.feed, by decide, by decide, fun H2 wd e2 wd0 wd1 => ?_⟩
    refine ⟨_, rfl, _, rfl, _, _, rfl, rfl, a, _, rfl, e2.feed, by omega, by omega, fun H3 n3 e3 n30 n31 => ⟨n3, rfl, by omega, by omega, ?_⟩⟩
    have e3' : Ext1 a H H3 := e1'.trans (e2.trans e3)
    refine for_range (lo := 0) (n := n3.toNat) (fun i σ H' => ∃ (us : List V) (rs : List (Int × List Int)) (y6 y7 : Option V), σ = [some (.ref a), some (.int mw), some (.int mr), some (.int wn), some (.ref R), some (.int wd), y6, y7, none, none] ∧ Ext1 a H H' ∧ H' R = some (.lst us) ∧
        Paired (RdT K H') us rs ∧ rs.length = i ∧ RdsAt wn rs) ⟨[], [], none, none, rfl, e3', ?_, .nil, rfl, fun r hr => by simp at hr⟩ ?_ ?_
    · exact e3.1 _ _ fR (e2.1 _ _ fR upd_same)
    · rintro i σ H4 hi ⟨us, rs, y6, y7, rfl, e4, hR, hP, hlen, hok⟩
      refine ⟨_, rfl, wn, rfl, by omega, by omega, fun D nD => ?_⟩
      have nD0 : H D = none := e4.free nD
      have fD : D ≠ a := hF.ne nD0
      have nDR : R ≠ D := ne_of_none hR nD
      refine lc_range (lo := 0) (n := ((wn : Nat) : Int).toNat) (fun j H' => ∃ acc : List Int, Ext1 a H4 H' ∧ H' D = some (.lst (acc.map V.int)) ∧ acc.Pairwise (· < ·) ∧ ∀ x ∈ acc, 0 ≤ x ∧ x < (j : Int))
        ⟨[], (Ext1.refl e4.feed).new nD, upd_same, .nil, fun x hx => by simp at hx⟩ ?_ ?_
      · rintro j H5 hj ⟨acc, e5, hD, pa, ba⟩
        refine ⟨rfl, _, rfl, a, 3, rfl, e5.feed, by decide, by decide, fun H6 v e6 v0 v1 => ⟨_, rfl, _, _, rfl, rfl, _, _, rfl, rfl, _, rfl, ite2 (fun _ => ?_) (fun _ => ?_)⟩⟩
        · have hD6 := e6.1 _ _ fD hD
          have hal := asc_len pa ba (by omega)
          have hj' : j < wn := by simpa using hj
          refine ⟨_, rfl, _, hD6, szl (by rw [List.length_map]; omega), acc ++ [0 + (j : Int)], (e5.trans e6).own nD fD, by rw [upd_same, List.map_append]; rfl, ?_, ?_⟩
          · refine List.pairwise_append.mpr ⟨pa, List.pairwise_singleton _ _, fun x hx y hy => ?_⟩
            have := ba x hx
            rw [List.mem_singleton.mp hy]
            omega
          · intro x hx
            rcases List.mem_append.mp hx with h | h
            · have := ba x h
              omega
            · rw [List.mem_singleton.mp h]
              omega
        · exact ⟨acc, e5.trans e6, e6.1 _ _ fD hD, pa, fun x hx => by have := ba x hx; omega⟩
      · rintro H5 ⟨acc, e5, hD, pa, ba⟩
        have ha : Asc wn acc := ⟨pa, fun x hx => by have := ba x hx; omega⟩
        have hR5 := e5.1 _ _ fR hR
        have hi3 : i < n3.toNat := hi
        refine ⟨_, rfl, .inl ⟨rfl, _, .inl (.inl hR5)⟩, ?_⟩
        refine ⟨_, rfl, (by show 10 ≤ sizeLine; decide), fun l nl => ⟨a, l, [0, 1, 1, 1, 2, 2, 3, 4, 5, 6].map V.int, rfl, (Ext1.new (Ext1.refl e5.feed) nl).feed, .inl (.inl upd_same), e5.feed.ne nl, by decide, by decide, fun H6 v e6 hv => ?_⟩⟩
        obtain ⟨lim, rfl, hlim⟩ := mem_map_int hv
        have hl6 : 0 ≤ lim ∧ lim ≤ 6 := (by decide : ∀ x ∈ ([0, 1, 1, 1, 2, 2, 3, 4, 5, 6] : List Int), 0 ≤ x ∧ x ≤ 6) lim hlim
        have e6' : Ext1 a H5 H6 := (Ext1.new (Ext1.refl e5.feed) nl).trans e6
        have hD6 := e6'.1 _ _ fD hD
        refine ⟨_, rfl, D, _, rfl, .inl ⟨.inl (.inl hD6), fun m nm => ⟨(by show 2 ≤ sizeLine; decide), fun t nt => ?_⟩⟩⟩
        have hR6 := e6'.1 _ _ fR hR5
        have nRm : R ≠ m := ne_of_none hR6 nm
        have hR7 : upd H6 m (.tup (acc.map V.int)) R = some (.lst us) := by rw [upd_ne nRm]; exact hR6
        have nRt : R ≠ t := ne_of_none hR7 nt
        have nmt : m ≠ t := fun e => by rw [← e, upd_same] at nt; cases nt
        have hR8 : upd (upd H6 m (.tup (acc.map V.int))) t (.tup [.int lim, .ref m]) R = some (.lst us) := by rw [upd_ne nRt]; exact hR7
        have e8 : Ext1 a H4 (upd (upd H6 m (.tup (acc.map V.int))) t (.tup [.int lim, .ref m])) := ((e5.trans e6').new nm).new nt
        have hul : us.length ≤ 100 := by rw [Paired.len hP, hlen]; omega
        refine ⟨R, _, _, rfl, rfl, hR8, szl (by omega), us ++ [.ref t], rs ++ [(lim, acc)], some (.int (0 + (i : Int))), some (.ref D), rfl, (e4.trans e8).own nR0 fR, upd_same, ?_, by simp [hlen], ?_⟩
        · refine Paired.snoc (L2.Paired.mapP hP fun _ _ z => RdT.upd hR8 (z.ext e8 e4.feed)) (RdT.upd hR8 ⟨t, m, rfl, .inl (.inl upd_same), .inl (.inl ?_)⟩)
          rw [upd_ne nmt, upd_same]
        · intro r hr
          rcases List.mem_append.mp hr with h | h
          · exact hok r h
          · rw [List.mem_singleton.mp h]
            exact ⟨hl6.1, hl6.2, ha⟩
    · rintro σ H4 ⟨us, rs, y6, y7, rfl, e4, hR, hP, hlen, hok⟩
      have hrl : rs.length ≤ 6 ∧ (rs.length : Int) ≤ mr := by omega
      refine ⟨_, rfl, _, rfl, Nat.zero_le _, fun ab nab => ?_⟩
      have e4' : Ext1 a H4 (upd H4 ab (.tup [])) := (Ext1.refl e4.feed).new nab
      refine ⟨a, R, ab, rs, [], rfl, e4'.feed, fR, ⟨us, .inl (.inl (e4'.1 _ _ fR hR)), L2.Paired.mapP hP fun _ _ z => z.ext e4' e4.feed⟩, rdsOk_of hok (by omega) (by omega), by omega, .inl (.inl upd_same), fun H5 p vs ws e5 np hp pw pr _ => ?_⟩
      have hwl : ws.length = rs.length := (Paired.len pr).symm
      refine ⟨_, rfl, p, vs, ws, wn, rfl, .inl (.inl hp), pw, by omega, by omega, fun H6 A s6 nA hA => ?_⟩
      have e6 : Ext1 a H4 H6 := (e4'.trans e5).trans (.same e5.feed s6)
      have nA0 : H A = none := (e4.trans (e4'.trans e5)).free nA
      have fA : A ≠ a := hF.ne nA0
      have hR6 := e6.1 _ _ fR hR
      have nAR : A ≠ R := fun e => by
        have := (e4'.trans e5).1 _ _ fR hR
        rw [← e, nA] at this; cases this
      have hP6 := L2.Paired.mapP hP fun _ _ z => RdT.ext e6 e4.feed z
      -- the demands are changed
      refine ⟨_, rfl, (by show 6 ≤ sizeLine; decide), fun l nl => ⟨a, l, [0, 0, 1, 1, 2, 6].map V.int, rfl, (Ext1.new (Ext1.refl e6.feed) nl).feed, .inl (.inl upd_same), e6.feed.ne nl, by decide, by decide, fun H7 v e7 hv => ?_⟩⟩
      obtain ⟨z, rfl, hz⟩ := mem_map_int hv
      have hz6 : 0 ≤ z ∧ z ≤ 6 := (by decide : ∀ x ∈ ([0, 0, 1, 1, 2, 6] : List Int), 0 ≤ x ∧ x ≤ 6) z hz
      have e7' : Ext1 a H6 H7 := (Ext1.new (Ext1.refl e6.feed) nl).trans e7
      refine ⟨z, rfl, by omega, by omega, ?_⟩
      refine for_range (lo := 0) (n := z.toNat) (fun i σ H' => ∃ (ds : List Int) (y6 : Option V), σ = [some (.ref a), some (.int mw), some (.int mr), some (.int wn), some (.ref R), some (.int wd), y6, y7, none, some (.ref A)] ∧ Ext1 a H H' ∧ H' A = some (.lst (ds.map V.int)) ∧ ds.length = wn ∧ (∀ d ∈ ds, 0 ≤ d ∧ d ≤ 6) ∧
          H' R = some (.lst us) ∧ Paired (RdT K H') us rs) ⟨times ws wn, y6, rfl, (e4.trans e6).trans e7', e7'.1 _ _ fA hA, times_len _ _, fun d hd => by have := times_le ws wn d hd; omega, e7'.1 _ _ fR hR6, L2.Paired.mapP hP6 fun _ _ z => RdT.ext e7' e6.feed z⟩ ?_ ?_
      · rintro i σ H8 hi ⟨ds, y6', rfl, e8, hA8, dl, db, hR8, hP8⟩
        refine ⟨_, rfl, (by show 6 ≤ sizeLine; decide), fun l nl => ⟨a, l, [0, 1, 1, 2, 3, 6].map V.int, rfl, (Ext1.new (Ext1.refl e8.feed) nl).feed, .inl (.inl upd_same), e8.feed.ne nl, by decide, by decide, fun H9 v e9 hv => ?_⟩⟩
        obtain ⟨y, rfl, hy⟩ := mem_map_int hv
        have hy6 : 0 ≤ y ∧ y ≤ 6 := (by decide : ∀ x ∈ ([0, 1, 1, 2, 3, 6] : List Int), 0 ≤ x ∧ x ≤ 6) y hy
        have e9' : Ext1 a H8 H9 := (Ext1.new (Ext1.refl e8.feed) nl).trans e9
        refine ⟨_, rfl, _, rfl, _, rfl, a, wn, rfl, e9'.feed, by omega, by omega, fun H10 k e10 k0 k1 => ?_⟩
        have e10' := e9'.trans e10
        have hA10 := e10'.1 _ _ fA hA8
        have hR10 := e10'.1 _ _ fR hR8
        obtain ⟨j, rfl⟩ : ∃ j : Nat, k = (j : Int) := ⟨k.toNat, by omega⟩
        refine ⟨A, _, (j : Int), j, rfl, rfl, hA10, ?_, ds.set j y, some (.int (0 + (i : Int))), rfl, (e8.trans e10').own nA0 fA, ?_, by simp [dl], ?_, ?_, ?_⟩
        · rw [List.length_map, dl]
          unfold ixN
          rw [if_pos (by omega), if_pos (by omega)]
          simp
        · rw [upd_same, List.map_set]
        · intro d hd
          rcases List.mem_or_eq_of_mem_set hd with h | h
          · exact db d h
          · rw [h]; exact hy6
        · rw [upd_ne nAR.symm]; exact hR10
        · exact L2.Paired.mapP hP8 fun _ _ z => RdT.upd hA10 (z.ext e10' e8.feed)
      · rintro σ H8 ⟨ds, y6', rfl, e8, hA8, dl, db, hR8, hP8⟩
        refine ⟨_, rfl, _, rfl, (by show 2 ≤ sizeLine; decide), fun p np => ?_⟩
        have hs : Same H8 (upd H8 p (.lst [.ref A, .ref R])) := sameU np
        have npA : p ≠ A := (ne_of_none hA8 np).symm
        have npR : p ≠ R := (ne_of_none hR8 np).symm
        exact q _ p A R ds us rs (e8.new np) (e8.free np) nA0 nR0 upd_same
          ⟨hs _ _ hA8, hs _ _ hR8, L2.Paired.mapP hP8 fun _ _ z => RdT.same hs z, by omega, by omega, db, hrl.1, by rw [dl]; exact hok, nAR⟩ npA npR (by omega) hrl.2
end
end Ew
namespace Ew
open PySem PySem.Spec PyProof.Rows L2
abbrev sIsInt : Stmt := (top 2)
abbrev sIsAmt : Stmt := (top 3)
abbrev sIsAsc : Stmt := (top 4)
abbrev sAreDem : Stmt := (top 24)
abbrev sIsRd : Stmt := (top 25)
def isI : V → Bool
  | .int _ => true
  | _ => false
def amt : V → Bool
  | .int i => decide (0 ≤ i) && decide (i ≤ 6)
  | _ => false
def ascV (n : Int) : Int → List V → Bool
  | _, [] => true
  | l, .int i :: r => decide (l < i) && decide (i < n) && ascV n i r
  | _, _ :: _ => false
/-- a value of a built-in type (of which what is asked about it stays) -/
def Bt (K : PySem.W.Frag) (H : Hp) (x : V) (T : String) : Prop := TyX K H x (.type T)
def spIsInt (K : PySem.W.Frag) : Sp := fun vs H Q _ => ∃ (x : V) (T : String), vs = [x] ∧ Bt K H x T ∧ Q (.bl (isI x)) H
def spIsAmt (K : PySem.W.Frag) : Sp := fun vs H Q _ => ∃ (x : V) (T : String), vs = [x] ∧ Bt K H x T ∧ Q (.bl (amt x)) H
def spIsAsc (K : PySem.W.Frag) : Sp := fun vs H Q _ => ∃ (x : V) (n : Int), vs = [x, .int n] ∧ ((∃ T, Bt K H x T ∧ T ≠ "tuple" ∧ Q (.bl false) H) ∨ ∃ t xs, x = .ref t ∧ SqT K H t xs ∧ (∀ y ∈ xs, ∃ T, Bt K H y T) ∧ Q (.bl (ascV n (-1) xs)) H)
def spAreDem (K : PySem.W.Frag) : Sp := fun vs H Q _ => ∃ (x : V), vs = [x] ∧ ((∃ T, Bt K H x T ∧ T ≠ "list" ∧ Q (.bl false) H) ∨ ∃ a xs, x = .ref a ∧ SqL K H a xs ∧ Bt K H x "list" ∧ xs.length ≤ 1000 ∧ (∀ y ∈ xs, ∃ T, Bt K H y T) ∧
  ∀ H', Same H H' → Q (.bl (decide (1 ≤ xs.length ∧ xs.length ≤ 6) && xs.all amt)) H')
def rdV (K : PySem.W.Frag) (H : Hp) (n : Int) (x : V) (b : Bool) : Prop :=
  (∃ T, Bt K H x T ∧ T ≠ "tuple" ∧ b = false) ∨ (∃ t xs, x = .ref t ∧ SqT K H t xs ∧ xs.length ≠ 2 ∧ b = false) ∨
  (∃ t y z, x = .ref t ∧ SqT K H t [y, z] ∧ (∃ T, Bt K H y T) ∧ ((∃ T, Bt K H z T ∧ T ≠ "tuple" ∧ b = false) ∨ ∃ m ys, z = .ref m ∧ SqT K H m ys ∧ (∀ u ∈ ys, ∃ T, Bt K H u T) ∧ b = (amt y && ascV n (-1) ys)))
def spIsRd (K : PySem.W.Frag) : Sp := fun vs H Q _ => ∃ (x : V) (n : Int) (b : Bool), vs = [x, .int n] ∧ rdV K H n x b ∧ Q (.bl b) H
theorem isI_of {K : PySem.W.Frag} {H : Hp} {x : V} {T : String} (h : Bt K H x T) : PySem.W.kitOne K (.type T) (.type "int") = some (decide (T = "int" ∨ T = "bool")) ∧ PySem.W.kitOne K (.type T) (.type "bool") = some (decide (T = "bool")) ∧ isI x = decide (T = "int") := by
  cases h with
  | base b => cases b <;> exact ⟨kit_ty (by decide +kernel), kit_ty (by decide +kernel), rfl⟩
  | _ => exact ⟨kit_ty (by decide +kernel), kit_ty (by decide +kernel), rfl⟩
theorem isT_of {K : PySem.W.Frag} {H : Hp} {x : V} {T : String} (h : Bt K H x T) : PySem.W.kitOne K (.type T) (.type "tuple") = some (decide (T = "tuple")) ∧ PySem.W.kitOne K (.type T) (.type "list") = some (decide (T = "list")) := by
  cases h with
  | base b => cases b <;> exact ⟨kit_ty (by decide +kernel), kit_ty (by decide +kernel)⟩
  | _ => exact ⟨kit_ty (by decide +kernel), kit_ty (by decide +kernel)⟩
theorem bt_tup {K : PySem.W.Frag} {H : Hp} {t : Addr} {xs : List V} (h : SqT K H t xs) : Bt K H (.ref t) "tuple" := by
  rcases h with (h | ⟨o, h⟩) | ⟨o, its, n, h, c, _⟩
  · exact .base (.tup h)
  · exact .fTuple h
  · exact .kTuple h c
theorem bt_lst {K : PySem.W.Frag} {H : Hp} {t : Addr} {xs : List V} (h : SqL K H t xs) : Bt K H (.ref t) "list" := by
  rcases h with (h | ⟨o, h⟩) | ⟨o, its, n, h, c, _⟩
  · exact .base (.lst h)
  · exact .base (.frz h)
  · exact .kList h c
theorem isI_int {x : V} (h : isI x = true) : ∃ i, x = .int i := by
  cases x <;> first | exact ⟨_, rfl⟩ | cases h
theorem amt_not {x : V} (h : isI x = false) : amt x = false := by
  cases x <;> first | rfl | cases h
/-- what stands of the package's small defs -/
structure Vals1 (K : PySem.W.Frag) (mg : Str → Option Value) : Prop where
  bi : Bi mg
  ga : ∃ t, mg "GREATEST_AMOUNT" = some (.int 6 t)
  mw : ∃ t, mg "MOST_WORKS" = some (.int 6 t)
  mr : ∃ t, mg "MOST_READERS" = some (.int 6 t)
  isInt : ∃ f fd, Fun K "is_integer" "is_integer" sIsInt f fd ∧ Binds K fd ["value"] [] ∧ mg "is_integer" = some (.ref f)
  isAmt : ∃ f fd, Fun K "is_amount" "is_amount" sIsAmt f fd ∧ Binds K fd ["value"] [] ∧ mg "is_amount" = some (.ref f)
  isAsc : ∃ f fd, Fun K "is_ascending" "is_ascending" sIsAsc f fd ∧ Binds K fd ["value", "many"] [] ∧ mg "is_ascending" = some (.ref f)
  areDem : ∃ f fd, Fun K "are_demands" "are_demands" sAreDem f fd ∧ Binds K fd ["value"] [] ∧ mg "are_demands" = some (.ref f)
  isRd : ∃ f fd, Fun K "is_reader" "is_reader" sIsRd f fd ∧ Binds K fd ["value", "many"] [] ∧ mg "is_reader" = some (.ref f)
section
variable {P : Program} {w : World} {K : PySem.W.Frag} {mg : Str → Option Value} {base : Heap}
theorem scIsInt : FnScope ["value"] ["value"] (defScope sIsInt) := ⟨rfl, rfl, rfl, by decide +kernel, rfl, by decide +kernel, by decide +kernel⟩
theorem ok_isInt {f : Addr} {fd : FuncData} (F : Fun K "is_integer" "is_integer" sIsInt f fd) (B : Bi mg) : FnOk P w K mg base CX0 1 f fd ["value"] (spIsInt K) := by
  refine F.ok scIsInt (fun vs H Q E h => ?_) (fun cdv A outer s H vs Q E hr h => ?_)
  · obtain ⟨x, T, rfl, _⟩ := h
    rfl
  · obtain ⟨x, T, rfl, hT, q⟩ := h
    refine ⟨_, pss_one (ps_ret (pe_and (pe_callB call_isi (by rfl) B.isinstance (by decide +kernel) (pa_cons (pv 0) (pa_cons (pe_bltn (v := .ty "int") (by rfl) B.int (by decide +kernel) rfl) pa_nil)))
      (pe_one (pe_not (pe_callB call_isi (by rfl) B.isinstance (by decide +kernel) (pa_cons (pv 0) (pa_cons (pe_bltn (v := .ty "bool") (by rfl) B.bool (by decide +kernel) rfl) pa_nil))))))), ?_⟩
    obtain ⟨k1, k2, e⟩ := isI_of hT
    refine ⟨x, rfl, x, .ty "int", _, _, _, rfl, .ty _, hT, k1, _, rfl, ?_⟩
    refine ite2 (fun c => ?_) (fun c => ?_)
    · refine ⟨x, rfl, x, .ty "bool", _, _, _, rfl, .ty _, hT, k2, _, rfl, ?_⟩
      have : (!decide (T = "bool")) = isI x := by
        rw [e]
        rcases of_decide_eq_true c with h | h
        · subst h; decide
        · subst h; decide
      rw [this]
      exact q
    · have : false = isI x := by
        rw [e]
        have h : ¬ (T = "int" ∨ T = "bool") := fun h => c (decide_eq_true h)
        exact (decide_eq_false fun h' => h (.inl h')).symm
      rw [this]
      exact q
theorem scIsAmt : FnScope ["value"] ["value"] (defScope sIsAmt) := ⟨rfl, rfl, rfl, by decide +kernel, rfl, by decide +kernel, by decide +kernel⟩
theorem ok_isAmt {f : Addr} {fd : FuncData} (F : Fun K "is_amount" "is_amount" sIsAmt f fd) (L : Vals1 K mg) : FnOk P w K mg base CX0 2 f fd ["value"] (spIsAmt K) := by
  obtain ⟨B, ⟨tg, ga⟩, _, _, ⟨fI, fdI, FI, bI, gI⟩, _⟩ := L
  have GI : FnOk P w K mg base CX0 1 fI fdI ["value"] (spIsInt K) := ok_isInt FI B
  refine F.ok scIsAmt (fun vs H Q E h => ?_) (fun cdv A outer s H vs Q E hr h => ?_)
  · obtain ⟨x, T, rfl, _⟩ := h
    rfl
  · obtain ⟨x, T, rfl, hT, q⟩ := h
    refine ⟨_, pss_one (ps_ret (pe_and (pe_call GI hr (by rfl) gI FI.kp bI .nil pass0 (pa_cons (pv 0) pa_nil)) (pe_one (pe_chain op_le op_le pe_int (pv 0) (pe_glob (v := .int 6) (by rfl) ga ⟨_, rfl⟩))))), ?_⟩
    refine ⟨x, rfl, x, T, rfl, hT, _, rfl, ?_⟩
    refine ite2 (fun c => ?_) (fun c => ?_)
    · obtain ⟨i, rfl⟩ := isI_int c
      refine ⟨_, rfl, _, _, rfl, rfl, _, rfl, ite2 (fun c => ?_) (fun c => ?_)⟩
      · refine ⟨_, _, rfl, rfl, ?_⟩
        have : amt (.int i) = decide (i ≤ 6) := by show (_ && _) = _; rw [c]; rfl
        rw [this] at q
        exact q
      · have : amt (.int i) = false := by show (_ && _) = _; rw [Bool.eq_false_iff.mpr c]; rfl
        rw [this] at q
        exact q
    · rw [amt_not (Bool.eq_false_iff.mpr c)] at q
      exact q
theorem scIsAsc : FnScope ["value", "many", "last", "item"] ["value", "many"] (defScope sIsAsc) := ⟨rfl, rfl, rfl, by decide +kernel, rfl, by decide +kernel, by decide +kernel⟩
theorem ok_isAsc {f : Addr} {fd : FuncData} (F : Fun K "is_ascending" "is_ascending" sIsAsc f fd) (L : Vals1 K mg) : FnOk P w K mg base CX0 2 f fd ["value", "many"] (spIsAsc K) := by
  obtain ⟨B, _, _, _, ⟨fI, fdI, FI, bI, gI⟩, _⟩ := L
  have GI : FnOk P w K mg base CX0 1 fI fdI ["value"] (spIsInt K) := ok_isInt FI B
  refine F.ok scIsAsc (fun vs H Q E h => ?_) (fun cdv A outer s H vs Q E hr h => ?_)
  · obtain ⟨x, n, rfl, _⟩ := h
    rfl
  · obtain ⟨x, n, rfl, h⟩ := h
    refine ⟨_, pss_cons (ps_if (pt_not (pt_val (pe_callB call_isi (by rfl) B.isinstance (by decide +kernel) (pa_cons (pv 0) (pa_cons (pe_bltn (v := .ty "tuple") (by rfl) B.tuple (by decide +kernel) rfl) pa_nil))))) (pss_one (ps_ret pe_bl)) pss_nil)
      (pss_cons (ps_set (i := 2) scIsAsc.nd rfl (.inl rfl) (pe_un un_neg pe_int))
      (pss_cons (ps_for PassesOwn.never rfl (pi_tup (pv 0)) (pg_name (i := 3) scIsAsc.nd rfl (.inl rfl))
        (pss_cons (ps_if (PW.pt (pw_or (pt_not (pt_val (pe_call GI hr (by rfl) gI FI.kp bI .nil pass0 (pa_cons (pv 3) pa_nil)))) (pw_or1 (pt_not (pt_chain op_lt op_lt (pv 2) (pv 3) (pv 1)))))) (pss_one (ps_ret pe_bl)) pss_nil)
          (pss_one (ps_set (i := 2) scIsAsc.nd rfl (.inl rfl) (pv 3)))))
      (pss_one (ps_ret pe_bl)))), ?_⟩
    rcases h with ⟨T, hT, nT, q⟩ | ⟨t, xs, rfl, hS, hty, q⟩
    · obtain ⟨k1, _⟩ := isT_of hT
      rw [decide_eq_false nT] at k1
      refine ⟨x, rfl, x, .ty "tuple", _, _, _, rfl, .ty _, hT, k1, _, rfl, ?_⟩
      exact q
    · obtain ⟨k1, _⟩ := isT_of (bt_tup hS)
      refine ⟨_, rfl, _, .ty "tuple", _, _, _, rfl, .ty _, bt_tup hS, k1, _, rfl, ?_⟩
      show (if (!decide ("tuple" = "tuple")) = true then _ else _)
      refine iteNS rfl ?_
      refine ⟨1, rfl, ?_⟩
      refine ⟨_, rfl, t, rfl, ⟨_, hS⟩, for_tup (K := K) (a := t) (xs := xs) (fun i σ H' => ∃ (l : Int) (y : Option V), σ = [some (.ref t), some (.int n), some (.int l), y] ∧ H' = H ∧ ascV n (-1) xs = ascV n l (xs.drop i)) ⟨-1, none, rfl, rfl, rfl⟩ (fun i σ H' _ ⟨_, _, _, e, _⟩ => e ▸ hS) ?_ ?_⟩
      · rintro i x σ H' hx ⟨l, y, rfl, rfl, e⟩
        obtain ⟨T, hT⟩ := hty x (List.mem_of_getElem? hx)
        have hd : xs.drop i = x :: xs.drop (i + 1) := by
          have hl := (List.getElem?_eq_some_iff.mp hx)
          rw [List.drop_eq_getElem_cons hl.1, hl.2]
        rw [hd] at e
        refine ⟨_, rfl, _, T, rfl, hT, _, rfl, ?_⟩
        cases hi : isI x with
        | false =>
          have : ascV n l (x :: xs.drop (i + 1)) = false := by cases x <;> first | rfl | cases hi
          rw [e, this] at q
          exact q
        | true =>
          obtain ⟨z, rfl⟩ := isI_int hi
          refine ⟨_, rfl, _, rfl, _, _, rfl, rfl, _, rfl, ite2 (fun c => ?_) (fun c => ?_)⟩
          · refine ⟨_, rfl, _, _, rfl, rfl, _, rfl, ?_⟩
            show (if (!decide (z < n)) = true then _ else _)
            cases c2 : decide (z < n) with
            | true =>
              refine iteF ?_
              refine ⟨_, rfl, z, _, rfl, rfl, ?_⟩
              rw [e]
              show (decide (l < z) && decide (z < n) && _) = _
              rw [c, c2]
              rfl
            | false =>
              refine iteT ?_
              have : ascV n l (V.int z :: xs.drop (i + 1)) = false := by
                show (decide (l < z) && decide (z < n) && _) = _
                rw [c2, Bool.and_false]
                rfl
              rw [e, this] at q
              exact q
          · refine ⟨_, rfl, ?_⟩
            have : ascV n l (V.int z :: xs.drop (i + 1)) = false := by
              show (decide (l < z) && decide (z < n) && _) = _
              rw [Bool.eq_false_iff.mpr c]
              rfl
            rw [e, this] at q
            exact q
      · rintro σ H' ⟨l, y, rfl, rfl, e⟩
        rw [List.drop_length] at e
        have e' : ascV n (-1) xs = true := e
        rw [e'] at q
        exact q
end
end Ew
namespace Ew
open PySem PySem.Spec PyProof.Rows L2
section
variable {P : Program} {w : World} {K : PySem.W.Frag} {mg : Str → Option Value} {base : Heap}
theorem Bt.same {H H' : Hp} {x : V} {T : String} (s : Same H H') (h : Bt K H x T) : Bt K H' x T := by
  cases h with
  | base b =>
    cases b with
    | non => exact .base .non
    | bl => exact .base (.bl _)
    | int => exact .base (.int _)
    | str => exact .base (.str _)
    | flt => exact .base (.flt _)
    | lst e => exact .base (.lst (s _ _ e))
    | frz e => exact .base (.frz (s _ _ e))
    | tup e => exact .base (.tup (s _ _ e))
    | dK e => exact .base (.dK (s _ _ e))
    | dT e => exact .base (.dT (s _ _ e))
  | byt => exact .byt _
  | set e => exact .set (s _ _ e)
  | kList e c => exact .kList e c
  | kTuple e c => exact .kTuple e c
  | kDict e c => exact .kDict e c
  | fTuple e => exact .fTuple (s _ _ e)
  | fDict e => exact .fDict (s _ _ e)
theorem scAreDem : FnScope ["value", "demand"] ["value"] (defScope sAreDem) := ⟨rfl, rfl, rfl, by decide +kernel, rfl, by decide +kernel, by decide +kernel⟩
theorem ok_areDem {f : Addr} {fd : FuncData} (F : Fun K "are_demands" "are_demands" sAreDem f fd) (L : Vals1 K mg) : FnOk P w K mg base CX0 3 f fd ["value"] (spAreDem K) := by
  have L' := L
  obtain ⟨B, _, ⟨tw, mw⟩, _, _, ⟨fA, fdA, FA, bA, gA⟩, _⟩ := L'
  have GA : FnOk P w K mg base CX0 2 fA fdA ["value"] (spIsAmt K) := ok_isAmt FA L
  refine F.ok scAreDem (fun vs H Q E h => ?_) (fun cdv A outer s H vs Q E hr h => ?_)
  · obtain ⟨x, rfl, _⟩ := h
    rfl
  · obtain ⟨x, rfl, h⟩ := h
    refine ⟨_, pss_cons (ps_if (PW.pt (pw_or (pt_not (pt_val (pe_callB call_isi (by rfl) B.isinstance (by decide +kernel) (pa_cons (pv 0) (pa_cons (pe_bltn (v := .ty "list") (by rfl) B.list (by decide +kernel) rfl) pa_nil)))))
          (pw_or1 (pt_not (pt_chain op_le op_le pe_int (pe_callB call_len_seq (by rfl) B.len PySem.boot_len (pa_cons (pv 0) pa_nil)) (pe_glob (v := .int 6) (by rfl) mw ⟨_, rfl⟩)))))) (pss_one (ps_ret pe_bl)) pss_nil)
      (pss_one (ps_ret (pe_callB (cr_all rfl) (by rfl) B.all (by decide +kernel) (pa_cons
        (pe_lc (own := [("demand", 1)]) (g := gName 1) (tt := tYes) (te := tCall (spIsAmt K) [] E0 (tCons (tVar 1) tNil)) rfl scAreDem.nd (pi_list (pv 0)) (blkOk_by (own := [("demand", 1)]) (N := ["value", "demand"]) (sc := defScope sAreDem) (by decide +kernel))
          (fun _ _ _ _ _ => pg_name (i := 1) scAreDem.nd rfl (.inl rfl)) (fun _ _ _ _ _ => pts_nil) (fun _ _ _ _ _ => pe_call GA hr (by rfl) gA FA.kp bA .nil pass0 (pa_cons (pv 1) pa_nil))) pa_nil)))), ?_⟩
    rcases h with ⟨T, hT, nT, q⟩ | ⟨a, xs, rfl, hS, hB, hl, hty, q⟩
    · obtain ⟨_, k1⟩ := isT_of hT
      rw [decide_eq_false nT] at k1
      refine ⟨x, rfl, x, .ty "list", _, _, _, rfl, .ty _, hT, k1, _, rfl, ?_⟩
      exact q
    · obtain ⟨_, k1⟩ := isT_of hB
      refine ⟨_, rfl, _, .ty "list", _, _, _, rfl, .ty _, hB, k1, _, rfl, ?_⟩
      show (if (!decide ("list" = "list")) = true then _ else _)
      refine iteNS rfl ?_
      refine ⟨_, rfl, a, xs, rfl, .inl hS, _, _, rfl, rfl, _, rfl, ite2 (fun c => ?_) (fun c => ?_)⟩
      · refine ⟨_, _, rfl, rfl, _, rfl, ?_⟩
        have c1 : (1 : Int) ≤ ((xs.length : Nat) : Int) := of_decide_eq_true c
        show (if (!decide (((xs.length : Nat) : Int) ≤ 6)) = true then _ else _)
        by_cases c6 : ((xs.length : Nat) : Int) ≤ 6
        · refine iteNS c6 ?_
          refine ⟨_, rfl, a, rfl, ⟨_, hS⟩, fun D nD => ?_⟩
          refine lc_list (K := K) (a := a) (xs := xs) (fun i H' => Same H H' ∧ H' D = some (.lst (((xs.take i).map amt).map V.bl))) ⟨sameU nD, upd_same⟩ (fun i H' _ ⟨e, _⟩ => e.seq hS) ?_ ?_
          · rintro i x H1 hx ⟨s1, hD⟩
            obtain ⟨T, hT⟩ := hty x (List.mem_of_getElem? hx)
            refine ⟨rfl, ?_⟩
            dsimp only [tYes]
            refine iteT ?_
            refine ⟨_, rfl, x, T, rfl, hT.same s1, _, hD, szl (by rw [List.length_map, List.length_map, List.length_take]; omega), same_own s1 nD, ?_⟩
            rw [upd_same, take_more hx, List.map_append, List.map_append]
            rfl
          · rintro H1 ⟨s1, hD⟩
            rw [List.take_length] at hD
            refine ⟨D, _, rfl, .inl (.inl hD), ?_⟩
            have q' := q H1 s1
            have e1 : decide (1 ≤ xs.length ∧ xs.length ≤ 6) = true := decide_eq_true (by omega)
            have e2 : (xs.map amt).all id = xs.all amt := by rw [List.all_map]; rfl
            rw [e1, Bool.true_and, ← e2] at q'
            exact q'
        · rw [decide_eq_false c6]
          refine iteT ?_
          have e1 : decide (1 ≤ xs.length ∧ xs.length ≤ 6) = false := decide_eq_false (by omega)
          have q' := q H (Same.refl H)
          rw [e1] at q'
          exact q'
      · refine ⟨_, rfl, ?_⟩
        have c1 : ¬ (1 : Int) ≤ ((xs.length : Nat) : Int) := fun h => c (decide_eq_true h)
        have e1 : decide (1 ≤ xs.length ∧ xs.length ≤ 6) = false := decide_eq_false (by omega)
        have q' := q H (Same.refl H)
        rw [e1] at q'
        exact q'
theorem scIsRd : FnScope ["value", "many", "limit", "may"] ["value", "many"] (defScope sIsRd) := ⟨rfl, rfl, rfl, by decide +kernel, rfl, by decide +kernel, by decide +kernel⟩
theorem ok_isRd {f : Addr} {fd : FuncData} (F : Fun K "is_reader" "is_reader" sIsRd f fd) (L : Vals1 K mg) : FnOk P w K mg base CX0 3 f fd ["value", "many"] (spIsRd K) := by
  have L' := L
  obtain ⟨B, _, _, _, _, ⟨fA, fdA, FA, bA, gA⟩, ⟨fC, fdC, FC, bC, gC⟩, _⟩ := L'
  have GA : FnOk P w K mg base CX0 2 fA fdA ["value"] (spIsAmt K) := ok_isAmt FA L
  have GC : FnOk P w K mg base CX0 2 fC fdC ["value", "many"] (spIsAsc K) := ok_isAsc FC L
  refine F.ok scIsRd (fun vs H Q E h => ?_) (fun cdv A outer s H vs Q E hr h => ?_)
  · obtain ⟨x, n, b, rfl, _⟩ := h
    rfl
  · obtain ⟨x, n, b, rfl, h, q⟩ := h
    refine ⟨_, pss_cons (ps_if (PW.pt (pw_or (pt_not (pt_val (pe_callB call_isi (by rfl) B.isinstance (by decide +kernel) (pa_cons (pv 0) (pa_cons (pe_bltn (v := .ty "tuple") (by rfl) B.tuple (by decide +kernel) rfl) pa_nil)))))
          (pw_or1 (pt_cmpR op_ne (pe_callB call_len_seq (by rfl) B.len PySem.boot_len (pa_cons (pv 0) pa_nil)) pe_int (nomark _))))) (pss_one (ps_ret pe_bl)) pss_nil)
      (pss_cons (ps_asg (pv 0) (pg_tup (by rfl) (pgs_cons (pg_name (i := 2) scIsRd.nd rfl (.inl rfl)) (pgs_cons (pg_name (i := 3) scIsRd.nd rfl (.inl rfl)) pgs_nil))))
      (pss_one (ps_ret (pe_and (pe_call GA hr (by rfl) gA FA.kp bA .nil pass0 (pa_cons (pv 2) pa_nil)) (pe_one (pe_call GC hr (by rfl) gC FC.kp bC .nil pass0 (pa_cons (pv 3) (pa_cons (pv 1) pa_nil)))))))), ?_⟩
    rcases h with ⟨T, hT, nT, rfl⟩ | ⟨t, xs, rfl, hS, hl, rfl⟩ | ⟨t, y, z, rfl, hS, ⟨Ty, hy⟩, hz⟩
    · obtain ⟨k1, _⟩ := isT_of hT
      rw [decide_eq_false nT] at k1
      refine ⟨x, rfl, x, .ty "tuple", _, _, _, rfl, .ty _, hT, k1, _, rfl, ?_⟩
      exact q
    · obtain ⟨k1, _⟩ := isT_of (bt_tup hS)
      refine ⟨_, rfl, _, .ty "tuple", _, _, _, rfl, .ty _, bt_tup hS, k1, _, rfl, ?_⟩
      show (if (!decide ("tuple" = "tuple")) = true then _ else _)
      refine iteNS rfl ?_
      refine ⟨_, rfl, t, xs, rfl, .inr hS, rfl, _, rfl, ?_⟩
      have e : decide (V.int ((xs.length : Nat) : Int) = V.int 2) = false := decide_eq_false fun h => hl (by have := V.int.inj h; omega)
      rw [e]
      exact q
    · obtain ⟨k1, _⟩ := isT_of (bt_tup hS)
      refine ⟨_, rfl, _, .ty "tuple", _, _, _, rfl, .ty _, bt_tup hS, k1, _, rfl, ?_⟩
      show (if (!decide ("tuple" = "tuple")) = true then _ else _)
      refine iteNS rfl ?_
      refine ⟨_, rfl, t, _, rfl, .inr hS, rfl, _, rfl, ?_⟩
      refine iteF ?_
      refine ⟨_, rfl, t, _, rfl, hS, rfl, _, _, rfl, _, _, rfl, rfl, ?_⟩
      refine ⟨_, rfl, y, Ty, rfl, hy, _, rfl, ?_⟩
      rcases hz with ⟨T, hT, nT, rfl⟩ | ⟨m, ys, rfl, hM, hu, rfl⟩
      · cases amt y with
        | true => exact iteT ⟨_, rfl, _, rfl, z, _, rfl, .inl ⟨T, hT, nT, q⟩⟩
        | false => exact iteF q
      · cases ey : amt y with
        | true =>
          rw [ey] at q
          exact iteT ⟨_, rfl, _, rfl, _, _, rfl, .inr ⟨m, ys, rfl, hM, hu, q⟩⟩
        | false =>
          rw [ey] at q
          exact iteF q
end
end Ew
namespace Ew
open PySem PySem.Spec PyProof.Rows L2
abbrev sBkInit : Stmt := (inClass (top 26) 0)
abbrev sBkDem : Stmt := (inClass (top 26) 1)
abbrev sBkRd : Stmt := (inClass (top 26) 2)
abbrev sBkEq : Stmt := (inClass (top 26) 4)
theorem dr_ : ¬ (("_demands" : Str) = "_readers") := by decide +kernel
def bf (A R : Addr) : List (Str × V) := putF "_readers" (.ref R) (putF "_demands" (.ref A) [])
theorem bf_dem (A R : Addr) : (bf A R).lookup ("_demands" : Str) = some (.ref A) := by
  unfold bf
  rw [lookup_putF, if_neg dr_, lookup_putF, if_pos rfl]
theorem bf_rd (A R : Addr) : (bf A R).lookup ("_readers" : Str) = some (.ref R) := by
  unfold bf
  rw [lookup_putF, if_pos rfl]
theorem bf_no (A R : Addr) {m : Str} (h1 : ¬ m = "_readers") (h2 : ¬ m = "_demands") : (bf A R).lookup m = none := by
  unfold bf
  rw [lookup_putF, if_neg h1, lookup_putF, if_neg h2]
  all_goals rfl
/-- a book stands at x: of ds and the readers us, which are rs; its lists are not the feed -/
def IsBook (K : PySem.W.Frag) (C f : Addr) (H : Hp) (x : Addr) (ds : List Int) (us : List V) (rs : List (Int × List Int)) : Prop :=
  ∃ dx A R, H x = some (.ins C dx (bf A R)) ∧ H A = some (.lst (ds.map V.int)) ∧ H R = some (.lst us) ∧ A ≠ f ∧ R ≠ f ∧ Paired (RdT K H) us rs
theorem IsBook.same {K : PySem.W.Frag} {C f x : Addr} {H H' : Hp} {ds us rs} (h : IsBook K C f H x ds us rs) (s : Same H H') : IsBook K C f H' x ds us rs := by
  obtain ⟨dx, A, R, h1, h2, h3, h4, h5, h6⟩ := h
  exact ⟨dx, A, R, s _ _ h1, s _ _ h2, s _ _ h3, h4, h5, L2.Paired.mapP h6 fun _ _ z => z.same s⟩
theorem IsBook.ext {K : PySem.W.Frag} {C f x : Addr} {H H' : Hp} {ds us rs} (h : IsBook K C f H x ds us rs) (hf : FeedAt H f) (s : Ext1 f H H') : IsBook K C f H' x ds us rs := by
  obtain ⟨dx, A, R, h1, h2, h3, h4, h5, h6⟩ := h
  have nx : x ≠ f := fun e => by
    obtain ⟨d, z, hz⟩ := hf
    rw [e, hz] at h1; cases h1
  exact ⟨dx, A, R, s.1 _ _ nx h1, s.1 _ _ h4 h2, s.1 _ _ h5 h3, h4, h5, L2.Paired.mapP h6 fun _ _ z => z.ext s hf⟩
/-- demands and readers as they may be -/
structure DsOk (ds : List Int) (rs : List (Int × List Int)) : Prop where
  n1 : 1 ≤ ds.length
  n6 : ds.length ≤ 6
  d6 : ∀ d ∈ ds, 0 ≤ d ∧ d ≤ 6
  r6 : rs.length ≤ 6
  ok : RdsAt ds.length rs
theorem BookAt.dsOk {K : PySem.W.Frag} {H : Hp} {A R : Addr} {ds us rs} (b : BookAt K H A R ds us rs) : DsOk ds rs := ⟨b.n1, b.n6, b.d6, b.r6, b.ok⟩
theorem bt_int {K : PySem.W.Frag} {H : Hp} (i : Int) : Bt K H (.int i) "int" := .base (.int i)
theorem ascV_ok {n : Int} : ∀ {l : List Int} {lo : Int}, l.Pairwise (· < ·) → (∀ x ∈ l, lo < x ∧ x < n) → ascV n lo (l.map V.int) = true
  | [], _, _, _ => rfl
  | x :: l, lo, hp, hb => by
    have hx := hb x (by simp)
    have hp' := List.pairwise_cons.mp hp
    show (decide (lo < x) && decide (x < n) && ascV n x (l.map V.int)) = true
    rw [decide_eq_true hx.1, decide_eq_true hx.2, ascV_ok hp'.2 fun y hy => ⟨hp'.1 y hy, (hb y (by simp [hy])).2⟩]
    rfl
theorem amt_ok {i : Int} (h : 0 ≤ i ∧ i ≤ 6) : amt (.int i) = true := by
  show (decide (0 ≤ i) && decide (i ≤ 6)) = true
  rw [decide_eq_true h.1, decide_eq_true h.2]
  rfl
theorem rdV_ok {K : PySem.W.Frag} {H : Hp} {n : Int} {v : V} {r : Int × List Int} (h : RdT K H v r) (o : RdOk n r) : rdV K H n v true := by
  obtain ⟨t, m, rfl, h1, h2⟩ := h
  refine .inr (.inr ⟨t, _, _, rfl, h1, ⟨_, bt_int _⟩, .inr ⟨m, _, rfl, h2, fun u hu => ?_, ?_⟩⟩)
  · obtain ⟨i, _, rfl⟩ := List.mem_map.mp hu
    exact ⟨_, bt_int _⟩
  · rw [amt_ok ⟨o.1, o.2.1⟩, ascV_ok o.2.2.1 fun x hx => by have := o.2.2.2 x hx; omega]
    rfl
def spBkInit (K : PySem.W.Frag) (C : Addr) : Sp := fun vs H Q _ => ∃ (x dx A R : Addr) (ds : List Int) (us : List V) (rs : List (Int × List Int)), vs = [.ref x, .ref A, .ref R] ∧ H x = some (.ins C dx []) ∧ SqL K H A (ds.map V.int) ∧ SqL K H R us ∧ Paired (RdT K H) us rs ∧ DsOk ds rs ∧
  ∀ H' A' R', (∀ H0 : Hp, Same H0 H → H0 x = none → Same H0 H') → H A' = none → H R' = none → H' x = some (.ins C dx (bf A' R')) → H' A' = some (.lst (ds.map V.int)) → H' R' = some (.lst us) → Q .non H'
structure BookTxt (K : PySem.W.Frag) (mg : Str → Option Value) (C : Addr) : Prop where
  cl : Cls K C
  nD : NoAttr K C "_demands"
  nR : NoAttr K C "_readers"
  mgC : mg "Book" = some (.ref C)
  init : ∃ f fd, Fun K "__init__" "Book.__init__" sBkInit f fd ∧ Binds K fd ["self", "demands", "readers"] [] ∧ Mk K C f
  dem : ∃ f fd, Fun K "demands" "Book.demands" sBkDem f fd ∧ Binds K fd ["self"] [] ∧ Meth K C "demands" f
  rd : ∃ f fd, Fun K "readers" "Book.readers" sBkRd f fd ∧ Binds K fd ["self"] [] ∧ Meth K C "readers" f
  eq : ∃ f fd, Fun K "__eq__" "Book.__eq__" sBkEq f fd ∧ Binds K fd ["self", "other"] [] ∧ Meth K C "__eq__" f
  ic : C8.InsC K C
  sub : PySem.W.notFirst K C (.ref C) = true
section
variable {P : Program} {w : World} {K : PySem.W.Frag} {mg : Str → Option Value} {base : Heap} {C : Addr}
theorem scBkInit : FnScope ["self", "demands", "readers", "place", "reader"] ["self", "demands", "readers"] (defScope sBkInit) := ⟨rfl, rfl, rfl, by decide +kernel, rfl, by decide +kernel, by decide +kernel⟩
theorem ok_bkInit {f : Addr} {fd : FuncData} (F : Fun K "__init__" "Book.__init__" sBkInit f fd) (L : Vals1 K mg) (T : BookTxt K mg C) : FnOk P w K mg base CX0 4 f fd ["self", "demands", "readers"] (spBkInit K C) := by
  have L' := L
  obtain ⟨B, _, _, ⟨tr, mr⟩, _, _, _, ⟨fD, fdD, FD, bD, gD⟩, ⟨fR, fdR, FR, bR, gR⟩⟩ := L'
  have GD : FnOk P w K mg base CX0 3 fD fdD ["value"] (spAreDem K) := ok_areDem FD L
  have GR : FnOk P w K mg base CX0 3 fR fdR ["value", "many"] (spIsRd K) := ok_isRd FR L
  refine F.ok scBkInit (fun vs H Q E h => ?_) (fun cdv A outer s H vs Q E hr h => ?_)
  · obtain ⟨x, dx, A, R, ds, us, rs, rfl, _⟩ := h
    rfl
  · obtain ⟨x, dx, A, R, ds, us, rs, rfl, hx, hA, hR, hP, ok, q⟩ := h
    refine ⟨_, pss_cons (ps_if (PW.pt (pw_or (pt_not (pt_val (pe_call GD hr (by rfl) gD FD.kp bD .nil pass0 (pa_cons (pv 1) pa_nil))))
          (pw_or (pt_not (pt_val (pe_callB call_isi (by rfl) B.isinstance (by decide +kernel) (pa_cons (pv 2) (pa_cons (pe_bltn (v := .ty "list") (by rfl) B.list (by decide +kernel) rfl) pa_nil)))))
          (pw_or1 (pt_cmpR op_gt (pe_callB call_len_seq (by rfl) B.len PySem.boot_len (pa_cons (pv 2) pa_nil)) (pe_glob (v := .int 6) (by rfl) mr ⟨_, rfl⟩) (nomark _)))))) (pss_one ps_never) pss_nil)
      (pss_cons (ps_for PassesOwn.never rfl (pi_enum (by rfl) B.enumerate (pa_cons (pv 2) pa_nil)) (pg_tup (by rfl) (pgs_cons (pg_name (i := 3) scBkInit.nd rfl (.inl rfl)) (pgs_cons (pg_name (i := 4) scBkInit.nd rfl (.inl rfl)) pgs_nil)))
        (pss_one (ps_if (pt_not (pt_val (pe_call GR hr (by rfl) gR FR.kp bR .nil pass0 (pa_cons (pv 4) (pa_cons (pe_callB call_len_seq (by rfl) B.len PySem.boot_len (pa_cons (pv 1) pa_nil)) pa_nil))))) (pss_one ps_never) pss_nil)))
      (pss_cons (ps_fld (pv 0) (pe_callTy call_list_of (by rfl) B.list (by decide +kernel) (pa_cons (pv 1) pa_nil)) rfl)
      (pss_one (ps_fld (pv 0) (pe_callTy call_list_of (by rfl) B.list (by decide +kernel) (pa_cons (pv 2) pa_nil)) rfl)))), ?_⟩
    refine ⟨_, rfl, _, rfl, .inr ⟨A, _, rfl, hA, bt_lst hA, by rw [List.length_map]; have := ok.n6; omega, fun y hy => ?_, fun H1 s1 => ?_⟩⟩
    · obtain ⟨i, _, rfl⟩ := List.mem_map.mp hy
      exact ⟨_, bt_int _⟩
    have e1 : (decide (1 ≤ (ds.map V.int).length ∧ (ds.map V.int).length ≤ 6) && (ds.map V.int).all amt) = true := by
      rw [List.length_map, decide_eq_true ⟨ok.n1, ok.n6⟩, Bool.true_and, List.all_map]
      exact List.all_eq_true.mpr fun d hd => amt_ok (ok.d6 d hd)
    rw [e1]
    refine ⟨true, rfl, iteF ?_⟩
    obtain ⟨_, k1⟩ := isT_of (bt_lst (s1.seq hR))
    refine ⟨_, rfl, _, .ty "list", _, _, _, rfl, .ty _, bt_lst (s1.seq hR), k1, _, rfl, ?_⟩
    show (if (!decide ("list" = "list")) = true then _ else _)
    refine iteNS rfl ?_
    have hul : us.length = rs.length := Paired.len hP
    have r6 := ok.r6
    refine ⟨_, rfl, R, us, rfl, .inl (s1.seq hR), _, _, rfl, rfl, _, rfl, ?_⟩
    show (if decide ((6 : Int) < ((us.length : Nat) : Int)) = true then _ else _)
    rw [decide_eq_false (by omega)]
    refine iteF ?_
    refine ⟨_, rfl, R, us, rfl, s1.seq hR, for_it (walk_enum (xs := us)) (fun i σ H' => ∃ y3 y4, σ = [some (.ref x), some (.ref A), some (.ref R), y3, y4] ∧ Same H H') ⟨none, none, rfl, s1⟩ (fun i σ H' _ ⟨_, _, _, e⟩ => e.seq hR) ?_ ?_⟩
    · rintro i v σ H2 H3 hi ⟨y3, y4, rfl, s2⟩ ⟨t, x1, x2, rfl, nt, rfl, f1, f2⟩
      obtain ⟨r, hr2, rd⟩ := Paired.at1 hP f2
      have sT : Same H (upd H2 t (.tup [x1, x2])) := s2.trans (sameU nt)
      refine ⟨t, _, rfl, .inl (.inl upd_same), rfl, _, _, rfl, _, _, rfl, rfl, ?_⟩
      refine ⟨_, rfl, _, rfl, A, _, rfl, .inl (sT.seq hA), x2, _, true, rfl, ?_, true, rfl, ?_⟩
      · rw [List.length_map]
        exact rdV_ok (rd.same sT) (ok.ok r (List.mem_of_getElem? hr2))
      · exact iteF ⟨_, _, rfl, sT⟩
    · rintro σ H2 ⟨y3, y4, rfl, s2⟩
      refine ⟨_, rfl, A, _, rfl, .inl (s2.seq hA), fun A' nA => ?_⟩
      have nxA : x ≠ A' := ne_of_none (s2 _ _ hx) nA
      have sA : Same H (upd H2 A' (.lst (ds.map V.int))) := s2.trans (sameU nA)
      refine ⟨_, rfl, x, C, dx, _, rfl, sA _ _ hx, T.cl, T.nD, by show 0 < 1000; decide, ?_⟩
      have st : ∀ b o, b ≠ x → H b = some o → (h : NT o := by trivial) → upd (upd H2 A' (.lst (ds.map V.int))) x (.ins C dx (putF "_demands" (.ref A') [])) b = some o := fun b o nb e z => by
        rw [upd_ne nb]; exact sA.go _ _ e z
      have hR2 : SqL K (upd (upd H2 A' (.lst (ds.map V.int))) x (.ins C dx (putF "_demands" (.ref A') []))) R us := by
        rcases hR with (h | ⟨o, h⟩) | h
        · exact .inl (.inl (st _ _ (fun e => by rw [e, hx] at h; cases h) h))
        · exact .inl (.inr ⟨o, st _ _ (fun e => by rw [e, hx] at h; cases h) h⟩)
        · exact .inr h
      refine ⟨_, rfl, R, _, rfl, .inl hR2, fun R' nR => ?_⟩
      have nxR : x ≠ R' := fun e => by rw [← e, upd_same] at nR; cases nR
      have nR1 : upd H2 A' (.lst (ds.map V.int)) R' = none := by rw [upd_ne nxR.symm] at nR; exact nR
      have nAR : A' ≠ R' := fun e => by rw [← e, upd_same] at nR1; cases nR1
      refine ⟨_, rfl, x, C, dx, putF "_demands" (.ref A') [], rfl, ?_, T.cl, T.nR, (by show 1 < 1000; decide), ?_⟩
      · rw [upd_ne nxR, upd_same]
      refine q _ A' R' (fun H0 t n => ?_) (s2.free nA) (sA.free nR1) upd_same ?_ ?_
      · exact sameOwn ((sameOwn (t.trans sA) n (.ins (sA _ _ hx))).trans (sameU nR)) n (.ins (by rw [upd_ne nxR, upd_same]))
      · rw [upd_ne nxA.symm, upd_ne nAR, upd_ne nxA.symm, upd_same]
      · rw [upd_ne nxR.symm, upd_same]
end
end Ew
namespace Ew
open PySem PySem.Spec PyProof.Rows L2
def spBkDem (K : PySem.W.Frag) (C : Addr) : Sp := fun vs H Q _ => ∃ (f x : Addr) (ds : List Int) (us : List V) (rs : List (Int × List Int)), vs = [.ref x] ∧ IsBook K C f H x ds us rs ∧ ∀ H' p, Same H H' → H p = none → H' p = some (.lst (ds.map V.int)) → Q (.ref p) H'
def spBkRd (K : PySem.W.Frag) (C : Addr) : Sp := fun vs H Q _ => ∃ (f x : Addr) (ds : List Int) (us : List V) (rs : List (Int × List Int)), vs = [.ref x] ∧ IsBook K C f H x ds us rs ∧ ∀ H' p, Same H H' → H p = none → H' p = some (.lst us) → Q (.ref p) H'
/-- no value of a built-in type is a book -/
def NoBook (K : PySem.W.Frag) (C : Addr) : Prop := ∀ T ∈ ["NoneType", "bool", "int", "str", "list", "tuple", "dict"], PySem.W.kitOne K (.type T) (.ref C) = some false ∧ PySem.W.notFirst K C (.type T) = true
def spBkEq (K : PySem.W.Frag) (C : Addr) : Sp := fun vs H Q _ => ∃ (f x : Addr) (y : V) (ds : List Int) (us : List V) (rs : List (Int × List Int)), vs = [.ref x, y] ∧ IsBook K C f H x ds us rs ∧
  ((∃ g z ds' us' rs', y = .ref z ∧ IsBook K C g H z ds' us' rs' ∧ Q (.bl (decide (ds = ds') && decide (rs = rs'))) H) ∨ (∃ T, Bt K H y T ∧ T ∈ ["NoneType", "bool", "int", "str", "list", "tuple", "dict"] ∧ Q (.bl false) H))
section
variable {P : Program} {w : World} {K : PySem.W.Frag} {mg : Str → Option Value} {base : Heap} {C : Addr}
theorem scBkDem : FnScope ["self"] ["self"] (defScope sBkDem) := ⟨rfl, rfl, rfl, by decide +kernel, rfl, by decide +kernel, by decide +kernel⟩
theorem ok_bkDem {f : Addr} {fd : FuncData} (F : Fun K "demands" "Book.demands" sBkDem f fd) (B : Bi mg) (T : BookTxt K mg C) : FnOk P w K mg base CX0 1 f fd ["self"] (spBkDem K C) := by
  refine F.ok scBkDem (fun vs H Q E h => ?_) (fun cdv A outer s H vs Q E hr h => ?_)
  · obtain ⟨f, x, ds, us, rs, rfl, _⟩ := h
    rfl
  · obtain ⟨f, x, ds, us, rs, rfl, ⟨dx, A, R, h1, h2, h3, h4, h5, h6⟩, q⟩ := h
    refine ⟨_, pss_one (ps_ret (pe_callTy call_list_of (by rfl) B.list (by decide +kernel) (pa_cons (pe_fld (pv 0) rfl) pa_nil))), ?_⟩
    refine ⟨_, rfl, x, C, dx, _, _, rfl, h1, T.cl, T.nD, bf_dem _ _, A, _, rfl, .inl (.inl (.inl h2)), fun p np => ?_⟩
    exact q _ p (sameU np) np upd_same
theorem scBkRd : FnScope ["self"] ["self"] (defScope sBkRd) := ⟨rfl, rfl, rfl, by decide +kernel, rfl, by decide +kernel, by decide +kernel⟩
theorem ok_bkRd {f : Addr} {fd : FuncData} (F : Fun K "readers" "Book.readers" sBkRd f fd) (B : Bi mg) (T : BookTxt K mg C) : FnOk P w K mg base CX0 1 f fd ["self"] (spBkRd K C) := by
  refine F.ok scBkRd (fun vs H Q E h => ?_) (fun cdv A outer s H vs Q E hr h => ?_)
  · obtain ⟨f, x, ds, us, rs, rfl, _⟩ := h
    rfl
  · obtain ⟨f, x, ds, us, rs, rfl, ⟨dx, A, R, h1, h2, h3, h4, h5, h6⟩, q⟩ := h
    refine ⟨_, pss_one (ps_ret (pe_callTy call_list_of (by rfl) B.list (by decide +kernel) (pa_cons (pe_fld (pv 0) rfl) pa_nil))), ?_⟩
    refine ⟨_, rfl, x, C, dx, _, _, rfl, h1, T.cl, T.nR, bf_rd _ _, R, _, rfl, .inl (.inl (.inl h3)), fun p np => ?_⟩
    exact q _ p (sameU np) np upd_same
theorem scBkEq : FnScope ["self", "other"] ["self", "other"] (defScope sBkEq) := ⟨rfl, rfl, rfl, by decide +kernel, rfl, by decide +kernel, by decide +kernel⟩
theorem ok_bkEq {f : Addr} {fd : FuncData} (F : Fun K "__eq__" "Book.__eq__" sBkEq f fd) (B : Bi mg) (T : BookTxt K mg C) (N : NoBook K C) : FnOk P w K mg base CX0 1 f fd ["self", "other"] (spBkEq K C) := by
  refine F.ok scBkEq (fun vs H Q E h => ?_) (fun cdv A outer s H vs Q E hr h => ?_)
  · obtain ⟨f, x, y, ds, us, rs, rfl, _⟩ := h
    rfl
  · obtain ⟨f, x, y, ds, us, rs, rfl, ⟨dx, A, R, h1, h2, h3, h4, h5, h6⟩, h⟩ := h
    refine ⟨_, pss_one (ps_ret (pe_and (pe_callB call_isi (by rfl) B.isinstance (by decide +kernel) (pa_cons (pv 1) (pa_cons (pe_glob (v := .ref C) (by rfl) T.mgC rfl) pa_nil)))
      (pe_and (pe_cmpR (op_eqD hr.units) (pe_fld (pv 0) rfl) (pe_fld (pv 1) rfl) (nomark _)) (pe_one (pe_cmpR (op_eqD hr.units) (pe_fld (pv 0) rfl) (pe_fld (pv 1) rfl) (nomark _)))))), ?_⟩
    rcases h with ⟨g, z, ds', us', rs', rfl, ⟨dx', A', R', k1, k2, k3, k4, k5, k6⟩, q⟩ | ⟨Ty, hT, hm, q⟩
    · refine ⟨_, rfl, _, .ref C, _, _, _, rfl, .own C, .base (.ins k1 T.ic.cl T.ic.ha T.ic.hn T.ic.htk T.ic.hm), T.ic.me, true, rfl, iteT ?_⟩
      refine ⟨_, rfl, x, C, dx, _, _, rfl, h1, T.cl, T.nD, bf_dem _ _, _, rfl, z, C, dx', _, _, rfl, k1, T.cl, T.nD, bf_dem _ _, _, _, dp_dI (.inl (.inl h2)), dp_dI (.inl (.inl k2)), shp_dI _, shp_dI _, _, rfl, ?_⟩
      rw [eqv_dI]
      by_cases e : ds = ds'
      · rw [decide_eq_true e]
        refine iteT ?_
        refine ⟨_, rfl, x, C, dx, _, _, rfl, h1, T.cl, T.nR, bf_rd _ _, _, rfl, z, C, dx', _, _, rfl, k1, T.cl, T.nR, bf_rd _ _, _, _, dp_dRs (.inl (.inl h3)) h6, dp_dRs (.inl (.inl k3)) k6, shp_dRs _, shp_dRs _, ?_⟩
        rw [eqv_dRs]
        rw [decide_eq_true e, Bool.true_and] at q
        exact q
      · rw [decide_eq_false e]
        refine iteF ?_
        rw [decide_eq_false e, Bool.false_and] at q
        exact q
    · exact ⟨_, rfl, y, .ref C, _, _, _, rfl, .own C, hT, (N Ty hm).1, false, rfl, iteF q⟩
end
end Ew
namespace Ew
open PySem PySem.Spec PyProof.Rows L2
abbrev sLaw : Stmt := (top 47)
theorem sameX {H H1 H2 : Hp} {f : Addr} (s : Same H H1) (n : H f = none) (e : Ext1 f H1 H2) : Same H H2 := ⟨fun b o h z => e.1 b o (ne_of_none h n) (s.go b o h z) z, fun b z => by
  by_cases hb : b = f
  · rw [hb]; exact n
  · exact s.un b (e.un b hb z), fun P q t => e.tab P q (s.tab P q t)⟩
def spLaw (K : PySem.W.Frag) : Sp := fun vs H Q _ => ∃ (a : Addr) (ns : List Int), vs = [.ref a] ∧ SqL K H a (ns.map V.int) ∧ ns.length ≤ 63 ∧ ∀ H', Q (.bl true) H'
end Ew
namespace Ew
open PySem PySem.Spec PyProof.Rows L2
theorem flatI (l : List Int) : (l.map V.int).all flatV = true := by
  rw [List.all_map]
  exact List.all_eq_true.mpr fun _ _ => rfl
theorem inVI (i : Int) (l : List Int) : inV (.int i) (l.map V.int) = decide (i ∈ l) := by
  unfold inV
  rw [List.any_map]
  induction l with
  | nil => rfl
  | cons a l ih =>
    rw [List.any_cons, ih]
    have e : ((fun y => eqV y (V.int i)) ∘ V.int) a = decide (a = i) := by
      show eqV (V.int a) (V.int i) = _
      by_cases h : a = i
      · subst h
        simp [eqV]
      · simp [eqV, h]
    rw [e]
    by_cases h : a = i
    · subst h; simp
    · have h' : ¬ i = a := fun z => h z.symm
      simp [h, h']
theorem pLen {α β : Type} {R : α → β → Prop} : ∀ {xs : List α} {ys : List β}, Paired R xs ys → xs.length = ys.length
  | _, _, .nil => rfl
  | _, _, .cons _ t => by rw [List.length_cons, List.length_cons, pLen t]
theorem big_line : 1000000 < sizeLine := szl (Nat.le_refl _)
/-- objects that may be written: lists, dicts, instances of other classes -/
def Mv (C : Addr) : HO → Prop
  | .lst _ => True
  | .dK _ => True
  | .dT _ => True
  | .ins D _ _ => D ≠ C
  | _ => False
/-- the owned objects stand -/
def Fr (C : Addr) (S : List Addr) (H : Hp) : Prop := ∀ s ∈ S, ∃ o, H s = some o ∧ Mv C o
/-- all but the owned objects is as it was -/
structure Sx (C : Addr) (S : List Addr) (H H' : Hp) : Prop where
  old : ∀ (b : Addr) (o : HO), b ∉ S → H b = some o → (h : NT o := by first | trivial | assumption) → H' b = some o
  fr : Fr C S H'
  tab : ∀ (p : Addr) (q : Str), TabQ H p q → TabQ H' p q
/-- what may be written is no table and no code object -/
theorem Mv.nt {C : Addr} {o : HO} (h : Mv C o) : NT o := by
  cases o <;> first | exact trivial | exact h
theorem Mv.own {C : Addr} {H : Hp} {p : Addr} {o : HO} (h : Mv C o) (e : H p = some o) : OwnAt H p := ⟨o, e, h.nt, fun q z => by rw [z] at h; exact h⟩
section
variable {K : PySem.W.Frag} {C : Addr} {S T : List Addr} {H H' : Hp}
theorem Fr.same (h : Fr C S H) (s : Same H H') : Fr C S H' := fun a m => let ⟨o, e, w⟩ := h a m; ⟨o, s _ _ e w.nt, w⟩
theorem Fr.out (h : Fr C S H) {p : Addr} (n : H p = none) : p ∉ S := fun m => by
  obtain ⟨o, e, _⟩ := h p m
  rw [e] at n; cases n
theorem Fr.nil : Fr C [] H := fun _ m => nomatch m
theorem Fr.cons (h : Fr C S H) {p : Addr} {o : HO} (n : H p = none) (w : Mv C o) : Fr C (p :: S) (upd H p o) := fun a m => by
  rcases List.mem_cons.mp m with rfl | m
  · exact ⟨o, upd_same, w⟩
  · obtain ⟨u, e, q⟩ := h a m
    exact ⟨u, sameU n _ _ e q.nt, q⟩
theorem Fr.upd (h : Fr C S H) {p : Addr} {o : HO} (w : Mv C o) : Fr C S (upd H p o) := fun a m => by
  by_cases e : a = p
  · subst e
    exact ⟨o, upd_same, w⟩
  · obtain ⟨u, z, q⟩ := h a m
    exact ⟨u, by rw [upd_ne e]; exact z, q⟩
theorem Fr.less (h : Fr C S H) (s : ∀ a ∈ T, a ∈ S) : Fr C T H := fun a m => h a (s a m)
theorem Fr.tail {p : Addr} (h : Fr C (p :: S) H) : Fr C S H := h.less fun _ m => List.mem_cons_of_mem _ m
theorem sqT_sx (f : Fr C S H) (s : Sx C S H H') {t : Addr} {xs : List V} (h : SqT K H t xs) : SqT K H' t xs := by
  rcases h with (h | ⟨o, h⟩) | h
  · exact .inl (.inl (s.old _ _ (fun m => by obtain ⟨o, e, w⟩ := f _ m; rw [h] at e; cases e; exact w) h))
  · exact .inl (.inr ⟨o, s.old _ _ (fun m => by obtain ⟨o, e, w⟩ := f _ m; rw [h] at e; cases e; exact w) h⟩)
  · exact .inr h
theorem sx_upd {p : Addr} {o : HO} (f : Fr C S H) (m : p ∈ S) (w : Mv C o) : Sx C S H (upd H p o) := ⟨fun b u nb e _ => by rw [upd_ne (fun z => nb (by rw [z]; exact m))]; exact e, f.upd w, fun P q t => by
  obtain ⟨u, e, hu⟩ := f p m
  exact (hu.own e).tab t⟩
end
/-- a kind of data: how a value of it stands in the heap, away from the owned objects -/
structure Kd (K : PySem.W.Frag) (C : Addr) (α : Type) where
  rp : List Addr → Hp → V → α → Prop
  same : ∀ {S : List Addr} {H H' : Hp} {v : V} {x : α}, Same H H' → rp S H v x → rp S H' v x
  sx : ∀ {S : List Addr} {H H' : Hp} {v : V} {x : α}, Fr C S H → Sx C S H H' → rp S H v x → rp S H' v x
  new : ∀ {S : List Addr} {H : Hp} {p : Addr} {v : V} {x : α}, H p = none → rp S H v x → rp (p :: S) H v x
  less : ∀ {S T : List Addr} {H : Hp} {v : V} {x : α}, (∀ a ∈ T, a ∈ S) → rp S H v x → rp T H v x
section
variable {K : PySem.W.Frag} {C : Addr} {α β γ δ : Type}
def kI : Kd K C Int := ⟨fun _ _ v x => v = .int x, fun _ h => h, fun _ _ h => h, fun _ h => h, fun _ h => h⟩
def kB : Kd K C Bool := ⟨fun _ _ v x => v = .bl x, fun _ h => h, fun _ _ h => h, fun _ h => h, fun _ h => h⟩
def kS : Kd K C Str := ⟨fun _ _ v x => v = .str x, fun _ h => h, fun _ _ h => h, fun _ h => h, fun _ h => h⟩
/-- the value itself -/
def kV : Kd K C V := ⟨fun _ _ v x => v = x, fun _ h => h, fun _ _ h => h, fun _ h => h, fun _ h => h⟩
/-- None, or .. -/
def kO (k : Kd K C α) : Kd K C (Option α) where
  rp S H v x := match x with
    | none => v = .non
    | some y => k.rp S H v y
  same {S H H' v x} s h := by cases x with
    | none => exact h
    | some y => exact k.same s h
  sx {S H H' v x} f s h := by cases x with
    | none => exact h
    | some y => exact k.sx f s h
  new {S H p v x} n h := by cases x with
    | none => exact h
    | some y => exact k.new n h
  less {S T H v x} m h := by cases x with
    | none => exact h
    | some y => exact k.less m h
/-- a list -/
def kL (k : Kd K C α) : Kd K C (List α) where
  rp S H v l := ∃ a vs, v = .ref a ∧ a ∉ S ∧ H a = some (.lst vs) ∧ Paired (k.rp S H) vs l ∧ l.length ≤ 1000000
  same s h := let ⟨a, vs, e, n, h1, h2, h3⟩ := h; ⟨a, vs, e, n, s _ _ h1, L2.Paired.mapP h2 fun _ _ z => k.same s z, h3⟩
  sx f s h := let ⟨a, vs, e, n, h1, h2, h3⟩ := h; ⟨a, vs, e, n, s.old _ _ n h1, L2.Paired.mapP h2 fun _ _ z => k.sx f s z, h3⟩
  new {S H p v x} hn h := by
    obtain ⟨a, vs, e, n, h1, h2, h3⟩ := h
    refine ⟨a, vs, e, fun m => ?_, h1, L2.Paired.mapP h2 fun _ _ z => k.new hn z, h3⟩
    rcases List.mem_cons.mp m with rfl | m
    · rw [hn] at h1; cases h1
    · exact n m
  less m h := let ⟨a, vs, e, n, h1, h2, h3⟩ := h; ⟨a, vs, e, fun z => n (m _ z), h1, L2.Paired.mapP h2 fun _ _ z => k.less m z, h3⟩
/-- a tuple, as a row of things -/
def kT (k : Kd K C α) : Kd K C (List α) where
  rp S H v l := ∃ a vs, v = .ref a ∧ SqT K H a vs ∧ Paired (k.rp S H) vs l ∧ l.length ≤ 1000000
  same s h := let ⟨a, vs, e, h1, h2, h3⟩ := h; ⟨a, vs, e, sameT s h1, L2.Paired.mapP h2 fun _ _ z => k.same s z, h3⟩
  sx f s h := let ⟨a, vs, e, h1, h2, h3⟩ := h; ⟨a, vs, e, sqT_sx f s h1, L2.Paired.mapP h2 fun _ _ z => k.sx f s z, h3⟩
  new hn h := let ⟨a, vs, e, h1, h2, h3⟩ := h; ⟨a, vs, e, h1, L2.Paired.mapP h2 fun _ _ z => k.new hn z, h3⟩
  less m h := let ⟨a, vs, e, h1, h2, h3⟩ := h; ⟨a, vs, e, h1, L2.Paired.mapP h2 fun _ _ z => k.less m z, h3⟩
/-- tuples of two, three, four -/
def kP (k : Kd K C α) (l : Kd K C β) : Kd K C (α × β) where
  rp S H v x := ∃ t v1 v2, v = .ref t ∧ SqT K H t [v1, v2] ∧ k.rp S H v1 x.1 ∧ l.rp S H v2 x.2
  same s h := let ⟨t, v1, v2, e, q, h1, h2⟩ := h; ⟨t, v1, v2, e, sameT s q, k.same s h1, l.same s h2⟩
  sx f s h := let ⟨t, v1, v2, e, q, h1, h2⟩ := h; ⟨t, v1, v2, e, sqT_sx f s q, k.sx f s h1, l.sx f s h2⟩
  new n h := let ⟨t, v1, v2, e, q, h1, h2⟩ := h; ⟨t, v1, v2, e, q, k.new n h1, l.new n h2⟩
  less m h := let ⟨t, v1, v2, e, q, h1, h2⟩ := h; ⟨t, v1, v2, e, q, k.less m h1, l.less m h2⟩
def k3 (k : Kd K C α) (l : Kd K C β) (m : Kd K C γ) : Kd K C (α × β × γ) where
  rp S H v x := ∃ t v1 v2 v3, v = .ref t ∧ SqT K H t [v1, v2, v3] ∧ k.rp S H v1 x.1 ∧ l.rp S H v2 x.2.1 ∧ m.rp S H v3 x.2.2
  same s h := let ⟨t, v1, v2, v3, e, q, h1, h2, h3⟩ := h; ⟨t, v1, v2, v3, e, sameT s q, k.same s h1, l.same s h2, m.same s h3⟩
  sx f s h := let ⟨t, v1, v2, v3, e, q, h1, h2, h3⟩ := h; ⟨t, v1, v2, v3, e, sqT_sx f s q, k.sx f s h1, l.sx f s h2, m.sx f s h3⟩
  new n h := let ⟨t, v1, v2, v3, e, q, h1, h2, h3⟩ := h; ⟨t, v1, v2, v3, e, q, k.new n h1, l.new n h2, m.new n h3⟩
  less z h := let ⟨t, v1, v2, v3, e, q, h1, h2, h3⟩ := h; ⟨t, v1, v2, v3, e, q, k.less z h1, l.less z h2, m.less z h3⟩
def k4 (k : Kd K C α) (l : Kd K C β) (m : Kd K C γ) (o : Kd K C δ) : Kd K C (α × β × γ × δ) where
  rp S H v x := ∃ t v1 v2 v3 v4, v = .ref t ∧ SqT K H t [v1, v2, v3, v4] ∧ k.rp S H v1 x.1 ∧ l.rp S H v2 x.2.1 ∧ m.rp S H v3 x.2.2.1 ∧ o.rp S H v4 x.2.2.2
  same s h := let ⟨t, v1, v2, v3, v4, e, q, h1, h2, h3, h4⟩ := h; ⟨t, v1, v2, v3, v4, e, sameT s q, k.same s h1, l.same s h2, m.same s h3, o.same s h4⟩
  sx f s h := let ⟨t, v1, v2, v3, v4, e, q, h1, h2, h3, h4⟩ := h; ⟨t, v1, v2, v3, v4, e, sqT_sx f s q, k.sx f s h1, l.sx f s h2, m.sx f s h3, o.sx f s h4⟩
  new n h := let ⟨t, v1, v2, v3, v4, e, q, h1, h2, h3, h4⟩ := h; ⟨t, v1, v2, v3, v4, e, q, k.new n h1, l.new n h2, m.new n h3, o.new n h4⟩
  less z h := let ⟨t, v1, v2, v3, v4, e, q, h1, h2, h3, h4⟩ := h; ⟨t, v1, v2, v3, v4, e, q, k.less z h1, l.less z h2, m.less z h3, o.less z h4⟩
/-- (word, one of two) -/
def kW (a b : Str) (k : Kd K C α) (l : Kd K C β) : Kd K C (α ⊕ β) where
  rp S H v x := ∃ t w, v = .ref t ∧ (match x with
    | .inl y => SqT K H t [.str a, w] ∧ k.rp S H w y
    | .inr y => SqT K H t [.str b, w] ∧ l.rp S H w y)
  same {S H H' v x} s h := by
    obtain ⟨t, w, e, q⟩ := h
    cases x with
    | inl y => exact ⟨t, w, e, sameT s q.1, k.same s q.2⟩
    | inr y => exact ⟨t, w, e, sameT s q.1, l.same s q.2⟩
  sx {S H H' v x} f s h := by
    obtain ⟨t, w, e, q⟩ := h
    cases x with
    | inl y => exact ⟨t, w, e, sqT_sx f s q.1, k.sx f s q.2⟩
    | inr y => exact ⟨t, w, e, sqT_sx f s q.1, l.sx f s q.2⟩
  new {S H p v x} n h := by
    obtain ⟨t, w, e, q⟩ := h
    cases x with
    | inl y => exact ⟨t, w, e, q.1, k.new n q.2⟩
    | inr y => exact ⟨t, w, e, q.1, l.new n q.2⟩
  less {S T H v x} m h := by
    obtain ⟨t, w, e, q⟩ := h
    cases x with
    | inl y => exact ⟨t, w, e, q.1, k.less m q.2⟩
    | inr y => exact ⟨t, w, e, q.1, l.less m q.2⟩
end
/-- rows -/
abbrev kWs {K : PySem.W.Frag} {C : Addr} : Kd K C (List (List Int)) := kL (kT kI)
/-- facts of data go over -/
structure Lf (K : PySem.W.Frag) (C : Addr) (S : List Addr) (H : Hp) (S' : List Addr) (H' : Hp) : Prop where
  go : ∀ {α : Type} (k : Kd K C α) (v : V) (x : α), k.rp S H v x → k.rp S' H' v x
  tab : ∀ (p : Addr) (q : Str), TabQ H p q → TabQ H' p q
section
variable {K : PySem.W.Frag} {C : Addr} {S S1 S2 T : List Addr} {H H1 H2 : Hp}
theorem Lf.refl : Lf K C S H S H := ⟨fun _ _ _ h => h, fun _ _ t => t⟩
theorem Lf.trans (a : Lf K C S H S1 H1) (b : Lf K C S1 H1 S2 H2) : Lf K C S H S2 H2 := ⟨fun k v x h => b.go k v x (a.go k v x h), fun p q t => b.tab p q (a.tab p q t)⟩
theorem Lf.same (s : Same H H1) : Lf K C S H S H1 := ⟨fun k v x h => k.same s h, s.tab⟩
theorem Lf.sx (f : Fr C S H) (s : Sx C S H H1) : Lf K C S H S H1 := ⟨fun k v x h => k.sx f s h, s.tab⟩
theorem Lf.less (m : ∀ a ∈ T, a ∈ S) : Lf K C S H T H := ⟨fun k v x h => k.less m h, fun _ _ t => t⟩
theorem Lf.own {p : Addr} {o : HO} (n : H p = none) : Lf K C S H (p :: S) (upd H p o) := ⟨fun k v x h => k.same (sameU n) (k.new n h), (sameU n).tab⟩
theorem Lf.new {p : Addr} (n : H p = none) : Lf K C S H (p :: S) H := ⟨fun k v x h => k.new n h, fun _ _ t => t⟩
end
section
variable {K : PySem.W.Frag} {C : Addr} {α β γ δ τ : Type}
def Ev (k : Kd K C α) (S : List Addr) (H : Hp) (t : TE) (σ : L2.St) (x : α) : Prop := ∀ H1, Same H H1 → ∀ Q : VK, (∀ v H2, Same H1 H2 → k.rp S H2 v x → Q v H2) → t σ H1 Q
/-- a new object -/
def EvN (k : Kd K C α) (S : List Addr) (H : Hp) (t : TE) (σ : L2.St) (x : α) : Prop := ∀ H1, Same H H1 → ∀ Q : VK, (∀ p H2, H1 p = none → Same H1 H2 → k.rp S H2 (.ref p) x → Q (.ref p) H2) → t σ H1 Q
def EvT (H : Hp) (t : TT) (σ : L2.St) (b : Bool) : Prop := ∀ H1, Same H H1 → ∀ Q : Bool → Hp → Prop, (∀ H2, Same H1 H2 → Q b H2) → t σ H1 Q
/-- kinds of arguments -/
structure Ka (K : PySem.W.Frag) (C : Addr) (τ : Type) where
  rps : List Addr → Hp → List V → τ → Prop
  n : Nat
  len : ∀ {S : List Addr} {H : Hp} {vs : List V} {x : τ}, rps S H vs x → vs.length = n
  same : ∀ {S : List Addr} {H H' : Hp} {vs : List V} {x : τ}, Same H H' → rps S H vs x → rps S H' vs x
def aN : Ka K C Unit := ⟨fun _ _ vs _ => vs = [], 0, fun h => by rw [h]; rfl, fun _ h => h⟩
def aC (k : Kd K C α) (ks : Ka K C τ) : Ka K C (α × τ) := ⟨fun S H vs x => ∃ v r, vs = v :: r ∧ k.rp S H v x.1 ∧ ks.rps S H r x.2, ks.n + 1, fun ⟨v, r, e, _, h⟩ => by rw [e, List.length_cons, ks.len h],
  fun s ⟨v, r, e, h1, h2⟩ => ⟨v, r, e, k.same s h1, ks.same s h2⟩⟩
def EvA (ks : Ka K C τ) (S : List Addr) (H : Hp) (t : TA) (σ : L2.St) (x : τ) : Prop := ∀ H1, Same H H1 → ∀ Q : List V → Hp → Prop, (∀ vs H2, Same H1 H2 → ks.rps S H2 vs x → Q vs H2) → t σ H1 Q
/-- what is walked gives l -/
structure Wk (k : Kd K C α) (S : List Addr) (J : It) (H : Hp) (l : List α) : Prop where
  go : ∀ i S' H', Lf K C S H S' H' → i < l.length → J.go i H'
  yld : ∀ i S' H' v H'' x, Lf K C S H S' H' → l[i]? = some x → J.yld i H' v H'' → Same H' H'' ∧ k.rp S' H'' v x
  stop : ∀ i S' H', Lf K C S H S' H' → l.length ≤ i → J.stop i H'
def EvI (k : Kd K C α) (S : List Addr) (H : Hp) (wi : TI) (σ : L2.St) (l : List α) : Prop := ∀ H1, Same H H1 → ∀ R : It → Hp → Prop, (∀ J H2, Same H1 H2 → Wk k S J H2 l → R J H2) → wi σ H1 R
variable {k : Kd K C α} {k1 : Kd K C β} {k2 : Kd K C γ} {S S' : List Addr} {H H0 : Hp} {σ : L2.St} {t ta tb tc : TE} {tt tu : TT} {x : α}
theorem EvN.ev (h : EvN k S H t σ x) : Ev k S H t σ x := fun H1 s Q q => h H1 s Q fun p H2 _ s2 r => q _ H2 s2 r
theorem Ev.use {Q : VK} (h : Ev k S H t σ x) (q : ∀ v H2, Same H H2 → k.rp S H2 v x → Q v H2) : t σ H Q := h H (Same.refl H) Q q
theorem EvN.use {Q : VK} (h : EvN k S H t σ x) (q : ∀ p H2, H p = none → Same H H2 → k.rp S H2 (.ref p) x → Q (.ref p) H2) : t σ H Q := h H (Same.refl H) Q q
theorem EvT.use {Q : Bool → Hp → Prop} {b : Bool} (h : EvT H tt σ b) (q : ∀ H2, Same H H2 → Q b H2) : tt σ H Q := h H (Same.refl H) Q q
theorem EvI.use {R : It → Hp → Prop} {l : List α} {wi : TI} (h : EvI k S H wi σ l) (q : ∀ J H2, Same H H2 → Wk k S J H2 l → R J H2) : wi σ H R := h H (Same.refl H) R q
theorem EvA.use {ks : Ka K C τ} {y : τ} {ta : TA} {Q : List V → Hp → Prop} (h : EvA ks S H ta σ y) (q : ∀ vs H2, Same H H2 → ks.rps S H2 vs y → Q vs H2) : ta σ H Q := h H (Same.refl H) Q q
theorem Ev.to {x' : α} (h : Ev k S H t σ x) (e : x = x') : Ev k S H t σ x' := e ▸ h
theorem EvN.to {x' : α} (h : EvN k S H t σ x) (e : x = x') : EvN k S H t σ x' := e ▸ h
theorem EvT.to {b b' : Bool} (h : EvT H tt σ b) (e : b = b') : EvT H tt σ b' := e ▸ h
theorem EvI.to {l l' : List α} {wi : TI} (h : EvI k S H wi σ l) (e : l = l') : EvI k S H wi σ l' := e ▸ h
theorem Ev.mono {H' : Hp} (s : Same H H') (h : Ev k S H t σ x) : Ev k S H' t σ x := fun H1 s1 => h H1 (s.trans s1)
theorem EvT.mono {H' : Hp} {b : Bool} (s : Same H H') (h : EvT H tt σ b) : EvT H' tt σ b := fun H1 s1 => h H1 (s.trans s1)
theorem ev_var {i : Nat} {v : V} (e : σ[i]? = some (some v)) (h : k.rp S' H0 v x) (l : Lf K C S' H0 S H) : Ev k S H (tVar i) σ x := fun H1 s Q q => ⟨v, e, q v H1 (Same.refl _) (k.same s (l.go k v x h))⟩
theorem ev_int {i : Int} : Ev (K := K) (C := C) kI S H (tC (.int i)) σ i := fun H1 _ Q q => q _ H1 (Same.refl _) rfl
theorem ev_bl {b : Bool} : Ev (K := K) (C := C) kB S H (tC (.bl b)) σ b := fun H1 _ Q q => q _ H1 (Same.refl _) rfl
/-- a value stands for one that may be None -/
theorem ev_some (h : Ev k S H t σ x) : Ev (kO k) S H t σ (some x) := fun H1 s Q q => h H1 s Q fun v H2 s2 r => q v H2 s2 r
theorem ev_none : Ev (kO k) S H (tC .non) σ none := fun H1 _ Q q => q _ H1 (Same.refl _) rfl
/-- two operands -/
theorem ev_op2 {y : β} {z : γ} {r : R2} (ha : Ev k S H ta σ x) (hb : Ev k1 S H tb σ y) (hr : ∀ v w H1, Same H H1 → k.rp S H1 v x → k1.rp S H1 w y → ∀ Q : VK, (∀ u H2, Same H1 H2 → k2.rp S H2 u z → Q u H2) → r v w H1 Q) : Ev k2 S H (tOp r ta tb) σ z := fun H1 s Q q =>
  ha H1 s _ fun v H2 s2 rv => hb H2 (s.trans s2) _ fun w H3 s3 rw_ => hr v w H3 (s.trans (s2.trans s3)) (k.same s3 rv) rw_ Q fun u H4 s4 ru => q u H4 (s2.trans (s3.trans s4)) ru
theorem ev_I2 {f : Int → Int → Int} {i j : Int} (ha : Ev (K := K) (C := C) kI S H ta σ i) (hb : Ev (K := K) (C := C) kI S H tb σ j) : Ev (K := K) (C := C) kI S H (tOp (rI0 fun i j => .int (f i j)) ta tb) σ (f i j) :=
  ev_op2 ha hb fun v w H1 _ e1 e2 Q q => ⟨i, j, e1, e2, q _ H1 (Same.refl _) rfl⟩
theorem ev_B2 {f : Int → Int → Bool} {i j : Int} (ha : Ev (K := K) (C := C) kI S H ta σ i) (hb : Ev (K := K) (C := C) kI S H tb σ j) : Ev (K := K) (C := C) kB S H (tOp (rI0 fun i j => .bl (f i j)) ta tb) σ (f i j) :=
  ev_op2 ha hb fun v w H1 _ e1 e2 Q q => ⟨i, j, e1, e2, q _ H1 (Same.refl _) rfl⟩
theorem ev_eqI {i j : Int} (ha : Ev (K := K) (C := C) kI S H ta σ i) (hb : Ev (K := K) (C := C) kI S H tb σ j) : Ev (K := K) (C := C) kB S H (tOp rEq ta tb) σ (decide (i = j)) :=
  ev_op2 ha hb fun v w H1 _ e1 e2 Q q => ⟨by rw [e1, e2]; rfl, q _ H1 (Same.refl _) (by rw [e1, e2]; show V.bl _ = V.bl _; first | (congr 1; done) | (congr 1; simp))⟩
theorem ev_neI {i j : Int} (ha : Ev (K := K) (C := C) kI S H ta σ i) (hb : Ev (K := K) (C := C) kI S H tb σ j) : Ev (K := K) (C := C) kB S H (tOp rNe ta tb) σ (!decide (i = j)) :=
  ev_op2 ha hb fun v w H1 _ e1 e2 Q q => ⟨by rw [e1, e2]; rfl, q _ H1 (Same.refl _) (by rw [e1, e2]; show V.bl _ = V.bl _; first | (congr 2; done) | (congr 2; simp))⟩
theorem ev_eqS {i j : Str} (ha : Ev (K := K) (C := C) kS S H ta σ i) (hb : Ev (K := K) (C := C) kS S H tb σ j) : Ev (K := K) (C := C) kB S H (tOp rEq ta tb) σ (decide (i = j)) :=
  ev_op2 ha hb fun v w H1 _ e1 e2 Q q => ⟨by rw [e1, e2]; rfl, q _ H1 (Same.refl _) (by rw [e1, e2]; show V.bl _ = V.bl _; first | (congr 1; done) | (congr 1; simp))⟩
theorem ev_neS {i j : Str} (ha : Ev (K := K) (C := C) kS S H ta σ i) (hb : Ev (K := K) (C := C) kS S H tb σ j) : Ev (K := K) (C := C) kB S H (tOp rNe ta tb) σ (!decide (i = j)) :=
  ev_op2 ha hb fun v w H1 _ e1 e2 Q q => ⟨by rw [e1, e2]; rfl, q _ H1 (Same.refl _) (by rw [e1, e2]; show V.bl _ = V.bl _; first | (congr 2; done) | (congr 2; simp))⟩
/-- an int beside an int or None -/
theorem ev_neO {i : Int} {j : Option Int} (ha : Ev (K := K) (C := C) kI S H ta σ i) (hb : Ev (K := K) (C := C) (kO kI) S H tb σ j) : Ev (K := K) (C := C) kB S H (tOp rNe ta tb) σ (!decide (some i = j)) :=
  ev_op2 ha hb fun v w H1 _ e1 e2 Q q => by
    cases j with
    | none =>
      have e2 : w = .non := e2
      exact ⟨by rw [e1, e2]; rfl, q _ H1 (Same.refl _) (by rw [e1, e2]; show V.bl _ = V.bl _; first | (congr 2; done) | (congr 2; simp))⟩
    | some j =>
      have e2 : w = .int j := e2
      exact ⟨by rw [e1, e2]; rfl, q _ H1 (Same.refl _) (by rw [e1, e2]; show V.bl _ = V.bl _; first | (congr 2; done) | (congr 2; simp))⟩
theorem ints_paired : ∀ {vs : List V} {l : List Int}, Paired ((kI (K := K) (C := C)).rp S H) vs l → vs = l.map V.int
  | _, _, .nil => rfl
  | _, _, .cons h t => by
    have h : _ = V.int _ := h
    rw [h, ints_paired t]
    rfl
theorem paired_ints : ∀ (l : List Int), Paired ((kI (K := K) (C := C)).rp S H) (l.map V.int) l
  | [] => .nil
  | _ :: l => .cons rfl (paired_ints l)
theorem kL_len {v : V} {l : List α} (h : (kL k).rp S H v l) : l.length ≤ 1000000 := let ⟨_, _, _, _, _, _, b⟩ := h; b
theorem kT_len {v : V} {l : List α} (h : (kT k).rp S H v l) : l.length ≤ 1000000 := let ⟨_, _, _, _, _, b⟩ := h; b
theorem kL_mem {v : V} {l : List α} (h : (kL k).rp S H v l) : ∀ x ∈ l, ∃ w, k.rp S H w x := by
  obtain ⟨_, vs, _, _, _, p, _⟩ := h
  intro x hx
  obtain ⟨i, hi, e⟩ := List.mem_iff_getElem.mp hx
  obtain ⟨u, _, r⟩ := Paired.at2 p (show l[i]? = some x by rw [List.getElem?_eq_getElem hi, e])
  exact ⟨u, r⟩
theorem kWs_len {v : V} {l : List (List α)} (h : (kL (kT k)).rp S H v l) : ∀ x ∈ l, x.length ≤ 1000000 := fun x hx => let ⟨_, r⟩ := kL_mem h x hx; kT_len r
theorem kL_ints {v : V} {l : List Int} (h : (kL (kI (K := K) (C := C))).rp S H v l) : ∃ a, v = .ref a ∧ a ∉ S ∧ H a = some (.lst (l.map V.int)) ∧ l.length ≤ 1000000 := by
  obtain ⟨a, vs, e, n, h1, h2, h3⟩ := h
  exact ⟨a, e, n, by rw [h1, ints_paired h2], h3⟩
theorem kT_ints {v : V} {l : List Int} (h : (kT (kI (K := K) (C := C))).rp S H v l) : ∃ a, v = .ref a ∧ SqT K H a (l.map V.int) ∧ l.length ≤ 1000000 := by
  obtain ⟨a, vs, e, h1, h2, h3⟩ := h
  exact ⟨a, e, by rw [← ints_paired h2]; exact h1, h3⟩
theorem rT_ints {v : V} {l : List Int} (h : RowT K H v l) (b : l.length ≤ 1000000) : (kT (kI (K := K) (C := C))).rp S H v l := let ⟨t, e, q⟩ := h; ⟨t, _, e, q, paired_ints l, b⟩
theorem ev_inT {i : Int} {l : List Int} (ha : Ev (K := K) (C := C) kI S H ta σ i) (hb : Ev (K := K) (C := C) (kT kI) S H tb σ l) : Ev (K := K) (C := C) kB S H (tOp (rIn K false) ta tb) σ (decide (i ∈ l)) :=
  ev_op2 ha hb fun v w H1 _ e1 e2 Q q => by
    obtain ⟨a, rfl, h, _⟩ := kT_ints e2
    refine ⟨a, _, rfl, .inr h, by rw [e1]; rfl, flatI l, ?_⟩
    rw [e1, if_neg Bool.false_ne_true, inVI]
    exact q _ H1 (Same.refl _) rfl
theorem ev_ninT {i : Int} {l : List Int} (ha : Ev (K := K) (C := C) kI S H ta σ i) (hb : Ev (K := K) (C := C) (kT kI) S H tb σ l) : Ev (K := K) (C := C) kB S H (tOp (rIn K true) ta tb) σ (!decide (i ∈ l)) :=
  ev_op2 ha hb fun v w H1 _ e1 e2 Q q => by
    obtain ⟨a, rfl, h, _⟩ := kT_ints e2
    refine ⟨a, _, rfl, .inr h, by rw [e1]; rfl, flatI l, ?_⟩
    rw [e1, if_pos rfl, inVI]
    exact q _ H1 (Same.refl _) rfl
theorem ev_inL {i : Int} {l : List Int} (ha : Ev (K := K) (C := C) kI S H ta σ i) (hb : Ev (K := K) (C := C) (kL kI) S H tb σ l) : Ev (K := K) (C := C) kB S H (tOp (rIn K false) ta tb) σ (decide (i ∈ l)) :=
  ev_op2 ha hb fun v w H1 _ e1 e2 Q q => by
    obtain ⟨a, rfl, _, h, _⟩ := kL_ints e2
    refine ⟨a, _, rfl, .inl (.inl (.inl h)), by rw [e1]; rfl, flatI l, ?_⟩
    rw [e1, if_neg Bool.false_ne_true, inVI]
    exact q _ H1 (Same.refl _) rfl
theorem ev_ninL {i : Int} {l : List Int} (ha : Ev (K := K) (C := C) kI S H ta σ i) (hb : Ev (K := K) (C := C) (kL kI) S H tb σ l) : Ev (K := K) (C := C) kB S H (tOp (rIn K true) ta tb) σ (!decide (i ∈ l)) :=
  ev_op2 ha hb fun v w H1 _ e1 e2 Q q => by
    obtain ⟨a, rfl, _, h, _⟩ := kL_ints e2
    refine ⟨a, _, rfl, .inl (.inl (.inl h)), by rw [e1]; rfl, flatI l, ?_⟩
    rw [e1, if_pos rfl, inVI]
    exact q _ H1 (Same.refl _) rfl
/-- the item at i -/
def at_ {α : Type} [Inhabited α] (l : List α) (i : Int) : α := l.getD i.toNat default
theorem at_get {α : Type} [Inhabited α] {l : List α} {i : Int} (h : 0 ≤ i ∧ i < l.length) : l[i.toNat]? = some (at_ l i) := by
  have h2 : i.toNat < l.length := by omega
  unfold at_
  rw [List.getD_eq_getElem?_getD, List.getElem?_eq_getElem h2]
  rfl
theorem at_mem {α : Type} [Inhabited α] {l : List α} {i : Int} (h : 0 ≤ i ∧ i < l.length) : at_ l i ∈ l := List.mem_of_getElem? (at_get h)
theorem atI_at [Inhabited α] {l : List α} {i : Int} {vs : List V} {R : V → α → Prop} (p : Paired R vs l) (h : 0 ≤ i ∧ i < l.length) : ∃ v, atI vs i = some v ∧ R v (at_ l i) := by
  obtain ⟨v, e, r⟩ := Paired.at2 p (at_get h)
  refine ⟨v, ?_, r⟩
  obtain ⟨j, rfl⟩ : ∃ j : Nat, i = (j : Int) := ⟨i.toNat, by omega⟩
  exact atI_nat (by simpa using e)
theorem ev_ixL [Inhabited α] {l : List α} {i : Int} (ha : Ev (kL k) S H ta σ l) (hb : Ev (K := K) (C := C) kI S H tb σ i) (hc : 0 ≤ i ∧ i < l.length) : Ev k S H (tOp (rIxL K) ta tb) σ (at_ l i) :=
  ev_op2 ha hb fun v w H1 _ e1 e2 Q q => by
    obtain ⟨a, vs, rfl, _, h, p, _⟩ := e1
    obtain ⟨u, hu, r⟩ := atI_at p hc
    exact ⟨a, vs, i, u, rfl, e2, .inl (.inl h), hu, q _ H1 (Same.refl _) r⟩
theorem ev_ixT [Inhabited α] {l : List α} {i : Int} (ha : Ev (kT k) S H ta σ l) (hb : Ev (K := K) (C := C) kI S H tb σ i) (hc : 0 ≤ i ∧ i < l.length) : Ev k S H (tOp (rIxT K) ta tb) σ (at_ l i) :=
  ev_op2 ha hb fun v w H1 _ e1 e2 Q q => by
    obtain ⟨a, vs, rfl, h, p, _⟩ := e1
    obtain ⟨u, hu, r⟩ := atI_at p hc
    exact ⟨a, vs, i, u, rfl, e2, h, hu, q _ H1 (Same.refl _) r⟩
theorem ev_fst {y : α × β} (ha : Ev (kP k k1) S H ta σ y) : Ev k S H (tOp (rIxT K) ta (tC (.int 0))) σ y.1 :=
  ev_op2 ha ev_int fun v w H1 _ e1 e2 Q q => by
    obtain ⟨t, v1, v2, rfl, h, r1, r2⟩ := e1
    exact ⟨t, _, 0, v1, rfl, e2, h, rfl, q _ H1 (Same.refl _) r1⟩
theorem ev_snd {y : α × β} (ha : Ev (kP k k1) S H ta σ y) : Ev k1 S H (tOp (rIxT K) ta (tC (.int 1))) σ y.2 :=
  ev_op2 ha ev_int fun v w H1 _ e1 e2 Q q => by
    obtain ⟨t, v1, v2, rfl, h, r1, r2⟩ := e1
    exact ⟨t, _, 1, v2, rfl, e2, h, rfl, q _ H1 (Same.refl _) r2⟩
theorem eva_nil : EvA (K := K) (C := C) aN S H tNil σ () := fun H1 _ Q q => q [] H1 (Same.refl _) rfl
theorem eva_cons {ks : Ka K C τ} {y : τ} {ta' : TA} (ha : Ev k S H ta σ x) (hb : EvA ks S H ta' σ y) : EvA (aC k ks) S H (tCons ta ta') σ (x, y) := fun H1 s Q q =>
  ha H1 s _ fun v H2 s2 r => hb H2 (s.trans s2) _ fun vs H3 s3 rs => q _ H3 (s2.trans s3) ⟨v, vs, rfl, k.same s3 r, rs⟩
/-- a built-in by its values -/
theorem ev_cb {ks : Ka K C τ} {y : τ} {z : γ} {ta' : TA} {r : List V → Hp → VK → Prop} (ha : EvA ks S H ta' σ y) (hr : ∀ vs H1, Same H H1 → ks.rps S H1 vs y → ∀ Q : VK, (∀ u H2, Same H1 H2 → k2.rp S H2 u z → Q u H2) → r vs H1 Q) : Ev k2 S H (tCB r ta') σ z := fun H1 s Q q =>
  ha H1 s _ fun vs H2 s2 rv => hr vs H2 (s.trans s2) rv Q fun u H4 s4 ru => q u H4 (s2.trans s4) ru
theorem evn_cb {ks : Ka K C τ} {y : τ} {z : γ} {ta' : TA} {r : List V → Hp → VK → Prop} (ha : EvA ks S H ta' σ y) (hr : ∀ vs H1, Same H H1 → ks.rps S H1 vs y → ∀ Q : VK, (∀ p H2, H1 p = none → Same H1 H2 → k2.rp S H2 (.ref p) z → Q (.ref p) H2) → r vs H1 Q) : EvN k2 S H (tCB r ta') σ z := fun H1 s Q q =>
  ha H1 s _ fun vs H2 s2 rv => hr vs H2 (s.trans s2) rv Q fun u H4 n s4 ru => q u H4 (s2.free n) (s2.trans s4) ru
abbrev rLen (K : PySem.W.Frag) : List V → Hp → VK → Prop := fun xs H Q => ∃ p ys, xs = [.ref p] ∧ (SqL K H p ys ∨ SqT K H p ys) ∧ Q (.int ys.length) H
theorem ev_lenL {l : List α} (ha : Ev (kL k) S H ta σ l) : Ev (K := K) (C := C) kI S H (tCB (rLen K) (tCons ta tNil)) σ (l.length : Nat) :=
  ev_cb (eva_cons ha eva_nil) fun vs H1 _ rv Q q => by
    obtain ⟨v, r, rfl, ⟨a, us, rfl, _, h, p, _⟩, e⟩ := rv
    cases (show r = [] from e)
    exact ⟨a, us, rfl, .inl (.inl (.inl h)), q _ H1 (Same.refl _) (by rw [pLen p]; rfl)⟩
theorem ev_lenT {l : List α} (ha : Ev (kT k) S H ta σ l) : Ev (K := K) (C := C) kI S H (tCB (rLen K) (tCons ta tNil)) σ (l.length : Nat) :=
  ev_cb (eva_cons ha eva_nil) fun vs H1 _ rv Q q => by
    obtain ⟨v, r, rfl, ⟨a, us, rfl, h, p, _⟩, e⟩ := rv
    cases (show r = [] from e)
    exact ⟨a, us, rfl, .inr h, q _ H1 (Same.refl _) (by rw [pLen p]; rfl)⟩
theorem bls_paired : ∀ {vs : List V} {l : List Bool}, Paired ((kB (K := K) (C := C)).rp S H) vs l → vs = l.map V.bl
  | _, _, .nil => rfl
  | _, _, .cons h t => by
    have h : _ = V.bl _ := h
    rw [h, bls_paired t]
    rfl
theorem ev_all {l : List Bool} (ha : Ev (K := K) (C := C) (kL kB) S H ta σ l) : Ev (K := K) (C := C) kB S H (tCB (rAll K) (tCons ta tNil)) σ (l.all id) :=
  ev_cb (eva_cons ha eva_nil) fun vs H1 _ rv Q q => by
    obtain ⟨v, r, rfl, ⟨a, us, rfl, _, h, p, _⟩, e⟩ := rv
    cases (show r = [] from e)
    rw [bls_paired p] at h
    exact ⟨a, l, rfl, .inl (.inl h), q _ H1 (Same.refl _) rfl⟩
theorem ev_any {l : List Bool} (ha : Ev (K := K) (C := C) (kL kB) S H ta σ l) : Ev (K := K) (C := C) kB S H (tCB (rAny K) (tCons ta tNil)) σ (l.any id) :=
  ev_cb (eva_cons ha eva_nil) fun vs H1 _ rv Q q => by
    obtain ⟨v, r, rfl, ⟨a, us, rfl, _, h, p, _⟩, e⟩ := rv
    cases (show r = [] from e)
    rw [bls_paired p] at h
    exact ⟨a, l, rfl, .inl (.inl h), q _ H1 (Same.refl _) rfl⟩
/-- min and max of two ints, as the rules have them -/
theorem ev_mm {f : Int → Int → Int} {i j : Int} (ha : Ev (K := K) (C := C) kI S H ta σ i) (hb : Ev (K := K) (C := C) kI S H tb σ j) : Ev (K := K) (C := C) kI S H (tCB (fun xs H Q => ∃ i j, xs = [.int i, .int j] ∧ Q (.int (f i j)) H) (tCons ta (tCons tb tNil))) σ (f i j) :=
  ev_cb (eva_cons ha (eva_cons hb eva_nil)) fun vs H1 _ rv Q q => by
    obtain ⟨v, r, rfl, h, v2, r2, e, h2, e2⟩ := rv
    cases (show v = .int i from h)
    cases (show r = v2 :: r2 from e)
    cases (show v2 = .int j from h2)
    cases (show r2 = [] from e2)
    exact ⟨i, j, rfl, q _ H1 (Same.refl _) rfl⟩
/-- rising -/
def insI (x : Int) : List Int → List Int
  | [] => [x]
  | y :: l => if x ≤ y then x :: y :: l else y :: insI x l
def srt : List Int → List Int
  | [] => []
  | x :: l => insI x (srt l)
theorem ins_perm (x : Int) : ∀ l, (insI x l).Perm (x :: l)
  | [] => List.Perm.refl _
  | y :: l => by
    unfold insI
    by_cases h : x ≤ y
    · rw [if_pos h]
    · rw [if_neg h]
      exact (List.Perm.cons y (ins_perm x l)).trans (List.Perm.swap _ _ _)
theorem srt_perm : ∀ l : List Int, (srt l).Perm l
  | [] => List.Perm.refl _
  | x :: l => (ins_perm x (srt l)).trans (List.Perm.cons x (srt_perm l))
theorem ins_up (x : Int) : ∀ {l : List Int}, l.Pairwise (· ≤ ·) → (insI x l).Pairwise (· ≤ ·)
  | [], _ => List.pairwise_singleton _ _
  | y :: l, h => by
    have h' := List.pairwise_cons.mp h
    unfold insI
    by_cases hx : x ≤ y
    · rw [if_pos hx]
      refine List.pairwise_cons.mpr ⟨fun z hz => ?_, h⟩
      rcases List.mem_cons.mp hz with rfl | hz
      · exact hx
      · have := h'.1 z hz
        omega
    · rw [if_neg hx]
      refine List.pairwise_cons.mpr ⟨fun z hz => ?_, ins_up x h'.2⟩
      rcases List.mem_cons.mp ((ins_perm x l).mem_iff.mp hz) with rfl | hz
      · omega
      · exact h'.1 z hz
theorem srt_up : ∀ l : List Int, (srt l).Pairwise (· ≤ ·)
  | [] => .nil
  | x :: l => ins_up x (srt_up l)
theorem srt_of {l ns : List Int} (p : ns.Perm l) (u : ns.Pairwise (· ≤ ·)) : ns = srt l :=
  (p.trans (srt_perm l).symm).eq_of_pairwise (fun a b _ _ h1 h2 => by omega) u (srt_up l)
theorem srt_len (l : List Int) : (srt l).length = l.length := (srt_perm l).length_eq
theorem evn_sortT {l : List Int} (ha : Ev (K := K) (C := C) (kT kI) S H ta σ l) (f : Fr C S H) (hc : l.length < 64) : EvN (K := K) (C := C) (kL kI) S H (tCB (rSortedTu K) (tCons ta tNil)) σ (srt l) :=
  evn_cb (eva_cons ha eva_nil) fun vs H1 s rv Q q => by
    obtain ⟨v, r, rfl, h, e⟩ := rv
    obtain ⟨a, rfl, h, _⟩ := kT_ints h
    cases (show r = [] from e)
    refine ⟨a, l, rfl, h, hc, fun ns p hp hu hn => ?_⟩
    rw [srt_of hp hu]
    exact q p _ hn (sameU hn) ⟨p, _, rfl, (f.same s).out hn, upd_same, paired_ints _, by rw [srt_len]; omega⟩
abbrev rLOf (K : PySem.W.Frag) : List V → Hp → VK → Prop := fun xs H Q => ∃ p ys, xs = [.ref p] ∧ (SqL K H p ys ∨ SqT K H p ys) ∧ ∀ l, H l = none → Q (.ref l) (upd H l (.lst ys))
theorem evn_copyL {l : List α} (ha : Ev (kL k) S H ta σ l) (f : Fr C S H) : EvN (kL k) S H (tCB (rLOf K) (tCons ta tNil)) σ l :=
  evn_cb (eva_cons ha eva_nil) fun vs H1 s rv Q q => by
    obtain ⟨v, r, rfl, ⟨a, us, rfl, _, h, p, hl⟩, e⟩ := rv
    cases (show r = [] from e)
    exact ⟨a, us, rfl, .inl (.inl (.inl h)), fun c hn => q c _ hn (sameU hn) ⟨c, us, rfl, (f.same s).out hn, upd_same, L2.Paired.mapP p fun _ _ z => k.same (sameU hn) z, hl⟩⟩
theorem evn_copyT {l : List α} (ha : Ev (kT k) S H ta σ l) (f : Fr C S H) : EvN (kL k) S H (tCB (rLOf K) (tCons ta tNil)) σ l :=
  evn_cb (eva_cons ha eva_nil) fun vs H1 s rv Q q => by
    obtain ⟨v, r, rfl, ⟨a, us, rfl, h, p, hl⟩, e⟩ := rv
    cases (show r = [] from e)
    exact ⟨a, us, rfl, .inr h, fun c hn => q c _ hn (sameU hn) ⟨c, us, rfl, (f.same s).out hn, upd_same, L2.Paired.mapP p fun _ _ z => k.same (sameU hn) z, hl⟩⟩
abbrev rTOf (K : PySem.W.Frag) : List V → Hp → VK → Prop := fun xs H Q => ∃ p ys, xs = [.ref p] ∧ ((SqL K H p ys ∧ ∀ l, H l = none → Q (.ref l) (upd H l (.tup ys))) ∨ (SqT K H p ys ∧ Q (.ref p) H))
theorem ev_tupL {l : List α} (ha : Ev (kL k) S H ta σ l) : Ev (kT k) S H (tCB (rTOf K) (tCons ta tNil)) σ l :=
  ev_cb (eva_cons ha eva_nil) fun vs H1 s rv Q q => by
    obtain ⟨v, r, rfl, ⟨a, us, rfl, _, h, p, hl⟩, e⟩ := rv
    cases (show r = [] from e)
    exact ⟨a, us, rfl, .inl ⟨.inl (.inl h), fun c hn => q _ _ (sameU hn) ⟨c, us, rfl, .inl (.inl upd_same), L2.Paired.mapP p fun _ _ z => k.same (sameU hn) z, hl⟩⟩⟩
theorem ev_tupT {l : List α} (ha : Ev (kT k) S H ta σ l) : Ev (kT k) S H (tCB (rTOf K) (tCons ta tNil)) σ l :=
  ev_cb (eva_cons ha eva_nil) fun vs H1 s rv Q q => by
    obtain ⟨v, r, rfl, ⟨a, us, rfl, h, p, hl⟩, e⟩ := rv
    cases (show r = [] from e)
    exact ⟨a, us, rfl, .inr ⟨h, q _ _ (Same.refl _) ⟨a, us, rfl, h, p, hl⟩⟩⟩
theorem evn_catL {l m : List α} (ha : Ev (kL k) S H ta σ l) (hb : Ev (kL k) S H tb σ m) (f : Fr C S H) (hc : l.length + m.length ≤ 1000000) : EvN (kL k) S H (tOp rCat ta tb) σ (l ++ m) := fun H1 s Q q =>
  ha H1 s _ fun v H2 s2 rv => hb H2 (s.trans s2) _ fun w H3 s3 rw_ => by
    obtain ⟨a, us, rfl, _, h, p, _⟩ := (kL k).same s3 rv
    obtain ⟨b, ws, rfl, _, h', p', _⟩ := rw_
    have sz : us.length + ws.length ≤ sizeLine := by
      rw [pLen p, pLen p']
      exact Nat.le_trans hc (Nat.le_of_lt big_line)
    exact ⟨a, b, us, ws, rfl, rfl, h, h', sz, fun c hn => q c _ (s2.free (s3.free hn)) (s2.trans (s3.trans (sameU hn)))
      ⟨c, _, rfl, (f.same (s.trans (s2.trans s3))).out hn, upd_same, Paired.app (L2.Paired.mapP p fun _ _ z => k.same (sameU hn) z) (L2.Paired.mapP p' fun _ _ z => k.same (sameU hn) z), by rw [List.length_append]; exact hc⟩⟩
theorem ev_catT {l m : List α} (ha : Ev (kT k) S H ta σ l) (hb : Ev (kT k) S H tb σ m) (hc : l.length + m.length ≤ 1000000) : Ev (kT k) S H (tOp (rCat1 K) ta tb) σ (l ++ m) :=
  ev_op2 ha hb fun v w H1 _ e1 e2 Q q => by
    obtain ⟨a, us, rfl, h, p, _⟩ := e1
    obtain ⟨b, ws, rfl, h', p', _⟩ := e2
    have sz : us.length + ws.length ≤ sizeLine := by
      rw [pLen p, pLen p']
      exact Nat.le_trans hc (Nat.le_of_lt big_line)
    exact ⟨a, b, us, ws, rfl, rfl, h, h', sz, fun c H2 s hh => q _ _ s ⟨c, _, rfl, hh, Paired.app (L2.Paired.mapP p fun _ _ z => k.same s z) (L2.Paired.mapP p' fun _ _ z => k.same s z), by rw [List.length_append]; exact hc⟩⟩
/-- a list or a tuple -/
inductive IsSq (k : Kd K C α) : Kd K C (List α) → Prop
  | l : IsSq k (kL k)
  | t : IsSq k (kT k)
theorem ev_len {kk : Kd K C (List α)} {l : List α} (ha : Ev kk S H ta σ l) (is : IsSq k kk) : Ev (K := K) (C := C) kI S H (tCB (rLen K) (tCons ta tNil)) σ (l.length : Nat) := by
  cases is with
  | l => exact ev_lenL ha
  | t => exact ev_lenT ha
theorem ev_in {kk : Kd K C (List Int)} {i : Int} {l : List Int} (ha : Ev (K := K) (C := C) kI S H ta σ i) (hb : Ev kk S H tb σ l) (is : IsSq kI kk) : Ev (K := K) (C := C) kB S H (tOp (rIn K false) ta tb) σ (decide (i ∈ l)) := by
  cases is with
  | l => exact ev_inL ha hb
  | t => exact ev_inT ha hb
theorem ev_nin {kk : Kd K C (List Int)} {i : Int} {l : List Int} (ha : Ev (K := K) (C := C) kI S H ta σ i) (hb : Ev kk S H tb σ l) (is : IsSq kI kk) : Ev (K := K) (C := C) kB S H (tOp (rIn K true) ta tb) σ (!decide (i ∈ l)) := by
  cases is with
  | l => exact ev_ninL ha hb
  | t => exact ev_ninT ha hb
theorem ev_tup {kk : Kd K C (List α)} {l : List α} (ha : Ev kk S H ta σ l) (is : IsSq k kk) : Ev (kT k) S H (tCB (rTOf K) (tCons ta tNil)) σ l := by
  cases is with
  | l => exact ev_tupL ha
  | t => exact ev_tupT ha
theorem ev_t0 : Ev (kT k) S H (tTup tNil) σ [] := fun H1 s Q q => ⟨Nat.zero_le _, fun p hn => q _ _ (sameU hn) ⟨p, [], rfl, .inl (.inl upd_same), .nil, Nat.zero_le _⟩⟩
theorem ev_t1 (ha : Ev k S H ta σ x) : Ev (kT k) S H (tTup (tCons ta tNil)) σ [x] := fun H1 s Q q =>
  ha H1 s _ fun v H2 s2 r => ⟨szL (by simp), fun p hn => q _ _ (s2.trans (sameU hn)) ⟨p, [v], rfl, .inl (.inl upd_same), .cons (k.same (sameU hn) r) .nil, by simp⟩⟩
theorem ev_t3 {y : β} {z : γ} (ha : Ev k S H ta σ x) (hb : Ev k1 S H tb σ y) (hc : Ev k2 S H tc σ z) : Ev (k3 k k1 k2) S H (tTup (tCons ta (tCons tb (tCons tc tNil)))) σ (x, y, z) := fun H1 s Q q =>
  ha H1 s _ fun v H2 s2 r => hb H2 (s.trans s2) _ fun w H3 s3 r3 => hc H3 (s.trans (s2.trans s3)) _ fun u H4 s4 r4 => ⟨szL (by simp), fun p hn => q _ _ (s2.trans (s3.trans (s4.trans (sameU hn))))
    ⟨p, v, w, u, rfl, .inl (.inl upd_same), k.same (s3.trans (s4.trans (sameU hn))) r, k1.same (s4.trans (sameU hn)) r3, k2.same (sameU hn) r4⟩⟩
theorem evn_l0 (f : Fr C S H) : EvN (kL k) S H (tLst tNil) σ [] := fun H1 s Q q => ⟨Nat.zero_le _, fun p hn => q _ _ hn (sameU hn) ⟨p, [], rfl, (f.same s).out hn, upd_same, .nil, Nat.zero_le _⟩⟩
theorem evn_l1 (ha : Ev k S H ta σ x) (f : Fr C S H) : EvN (kL k) S H (tLst (tCons ta tNil)) σ [x] := fun H1 s Q q =>
  ha H1 s _ fun v H2 s2 r => ⟨szL (by simp), fun p hn => q _ _ (s2.free hn) (s2.trans (sameU hn)) ⟨p, [v], rfl, (f.same (s.trans s2)).out hn, upd_same, .cons (k.same (sameU hn) r) .nil, by simp⟩⟩
theorem evt_test {b : Bool} (h : Ev (K := K) (C := C) kB S H t σ b) : EvT H (tTest t) σ b := fun H1 s Q q => h H1 s _ fun v H2 s2 r => ⟨b, r, q H2 s2⟩
theorem evt_b {b : Bool} (h : Ev (K := K) (C := C) kB S H t σ b) : EvT H (tB t) σ b := fun H1 s Q q => h H1 s _ fun v H2 s2 r => ⟨b, r, q H2 s2⟩
theorem evt_yes : EvT H tYes σ true := fun H1 _ Q q => q H1 (Same.refl _)
theorem evt_not {b : Bool} (h : EvT H tt σ b) : EvT H (tNot tt) σ (!b) := fun H1 s Q q => h H1 s _ fun H2 s2 => q H2 s2
theorem evt_and {b c : Bool} (h : EvT H tt σ b) (g : b = true → EvT H tu σ c) : EvT H (tAnd tt tu) σ (b && c) := fun H1 s Q q => h H1 s _ fun H2 s2 => by
  cases b with
  | true => exact iteT (g rfl H2 (s.trans s2) Q fun H3 s3 => q H3 (s2.trans s3))
  | false => exact iteF (q H2 s2)
theorem evt_or {b c : Bool} (h : EvT H tt σ b) (g : b = false → EvT H tu σ c) : EvT H (tOr tt tu) σ (b || c) := fun H1 s Q q => h H1 s _ fun H2 s2 => by
  cases b with
  | false => exact iteF (g rfl H2 (s.trans s2) Q fun H3 s3 => q H3 (s2.trans s3))
  | true => exact iteT (q H2 s2)
theorem ev_if {b : Bool} {y : α} (h : EvT H tt σ b) (ha : b = true → Ev k S H ta σ x) (hb : b = false → Ev k S H tb σ y) : Ev k S H (tIf tt ta tb) σ (if b = true then x else y) := fun H1 s Q q => h H1 s _ fun H2 s2 => by
  cases b with
  | true => exact iteT (ha rfl H2 (s.trans s2) Q fun v H3 s3 r => q v H3 (s2.trans s3) r)
  | false => exact iteF (hb rfl H2 (s.trans s2) Q fun v H3 s3 r => q v H3 (s2.trans s3) r)
theorem ev_andV {b c : Bool} (h : Ev (K := K) (C := C) kB S H ta σ b) (g : b = true → Ev (K := K) (C := C) kB S H tb σ c) : Ev (K := K) (C := C) kB S H (tAndV ta tb) σ (b && c) := fun H1 s Q q => h H1 s _ fun v H2 s2 r => by
  refine ⟨b, r, ?_⟩
  cases b with
  | true => exact iteT (g rfl H2 (s.trans s2) Q fun v H3 s3 r => q v H3 (s2.trans s3) r)
  | false => exact iteF (q _ H2 s2 rfl)
theorem evi_list {l : List α} (h : Ev (kL k) S H t σ l) : EvI k S H (iList K t) σ l := fun H1 s R r => h H1 s _ fun v H2 s2 rv => by
  obtain ⟨a, vs, e, _, h1, p, _⟩ := id rv
  refine ⟨a, e, ⟨vs, .inl (.inl h1)⟩, r _ H2 s2 ⟨fun i S' H' lf hi => ?_, fun i S' H' v' H'' x lf hx y => ?_, fun i S' H' lf hi => ?_⟩⟩
  · obtain ⟨a', vs', e', _, h1', p', _⟩ := lf.go _ _ _ rv
    cases e.symm.trans e'
    have hi' : i < vs'.length := by rw [pLen p']; exact hi
    exact ⟨vs', vs'[i], .inl (.inl h1'), by simp [hi']⟩
  · obtain ⟨a', vs', e', _, h1', p', _⟩ := lf.go _ _ _ rv
    cases e.symm.trans e'
    obtain ⟨rfl, y⟩ := y
    obtain ⟨u, hu, r⟩ := Paired.at2 p' hx
    have := y vs' (.inl (.inl h1'))
    rw [hu] at this
    cases this
    exact ⟨Same.refl _, r⟩
  · obtain ⟨a', vs', e', _, h1', p', _⟩ := lf.go _ _ _ rv
    cases e.symm.trans e'
    exact ⟨vs', .inl (.inl h1'), by rw [pLen p']; exact hi⟩
theorem evi_tup {l : List α} (h : Ev (kT k) S H t σ l) : EvI k S H (iTup K t) σ l := fun H1 s R r => h H1 s _ fun v H2 s2 rv => by
  obtain ⟨a, vs, e, h1, p, _⟩ := id rv
  refine ⟨a, e, ⟨vs, h1⟩, r _ H2 s2 ⟨fun i S' H' lf hi => ?_, fun i S' H' v' H'' x lf hx y => ?_, fun i S' H' lf hi => ?_⟩⟩
  · obtain ⟨a', vs', e', h1', p', _⟩ := lf.go _ _ _ rv
    cases e.symm.trans e'
    have hi' : i < vs'.length := by rw [pLen p']; exact hi
    exact ⟨vs', vs'[i], h1', by simp [hi']⟩
  · obtain ⟨a', vs', e', h1', p', _⟩ := lf.go _ _ _ rv
    cases e.symm.trans e'
    obtain ⟨rfl, y⟩ := y
    obtain ⟨u, hu, r⟩ := Paired.at2 p' hx
    have := y vs' h1'
    rw [hu] at this
    cases this
    exact ⟨Same.refl _, r⟩
  · obtain ⟨a', vs', e', h1', p', _⟩ := lf.go _ _ _ rv
    cases e.symm.trans e'
    exact ⟨vs', h1', by rw [pLen p']; exact hi⟩
def iota (n : Int) : List Int := (List.range n.toNat).map fun i => ((i : Nat) : Int)
theorem iota_len (n : Int) : (iota n).length = n.toNat := by
  unfold iota
  rw [List.length_map, List.length_range]
theorem iota_at {n : Int} {i : Nat} {x : Int} (h : (iota n)[i]? = some x) : x = (i : Int) ∧ i < n.toNat := by
  unfold iota at h
  rw [List.getElem?_map] at h
  by_cases hi : i < n.toNat
  · rw [List.getElem?_range hi] at h
    cases h
    exact ⟨rfl, hi⟩
  · rw [List.getElem?_eq_none (by rw [List.length_range]; omega)] at h
    cases h
theorem iota_mem {n x : Int} : x ∈ iota n ↔ 0 ≤ x ∧ x < n := by
  unfold iota
  simp only [List.mem_map, List.mem_range]
  constructor
  · rintro ⟨a, h, rfl⟩
    omega
  · rintro ⟨h1, h2⟩
    exact ⟨x.toNat, by omega, by omega⟩
theorem evi_rng {n : Int} (h : Ev (K := K) (C := C) kI S H t σ n) (hn : n ≤ 1000000) (hm : -1000000 ≤ n) : EvI (K := K) (C := C) kI S H (iRng1 (tCons t tNil)) σ (iota n) := fun H1 s R r => (eva_cons h eva_nil) H1 s _ fun vs H2 s2 rv => by
  obtain ⟨v, rr, rfl, hv, e⟩ := rv
  cases (show v = .int n from hv)
  cases (show rr = [] from e)
  refine ⟨n, rfl, by omega, by omega, r _ H2 s2 ⟨fun i S' H' lf hi => ?_, fun i S' H' v H'' x lf hx y => ?_, fun i S' H' lf hi => ?_⟩⟩
  · rw [iota_len] at hi
    exact hi
  · obtain ⟨rfl, rfl⟩ := y
    obtain ⟨rfl, _⟩ := iota_at hx
    exact ⟨Same.refl _, by show V.int _ = V.int _; rw [Int.zero_add]⟩
  · rw [iota_len] at hi
    exact hi
/-- each with its place -/
def enum {α : Type} (l : List α) : List (Int × α) := l.zipIdx.map fun p => ((p.2 : Nat), p.1)
theorem enum_len {α : Type} (l : List α) : (enum l).length = l.length := by
  unfold enum
  rw [List.length_map, List.length_zipIdx]
theorem enum_at {α : Type} {l : List α} {i : Nat} {x : Int × α} (h : (enum l)[i]? = some x) : x.1 = (i : Int) ∧ l[i]? = some x.2 := by
  unfold enum at h
  rw [List.getElem?_map, List.getElem?_zipIdx] at h
  cases e : l[i]? with
  | none => rw [e] at h; cases h
  | some y =>
    rw [e] at h
    cases h
    exact ⟨by show ((0 + i : Nat) : Int) = _; rw [Nat.zero_add], rfl⟩
theorem evi_enum {l : List α} (h : Ev (kL k) S H t σ l) : EvI (kP kI k) S H (iEnum K (tCons t tNil)) σ (enum l) := fun H1 s R r => (eva_cons h eva_nil) H1 s _ fun vs0 H2 s2 rv => by
  obtain ⟨v, rr, rfl, rv, e⟩ := rv
  cases (show rr = [] from e)
  obtain ⟨a, vs, rfl, _, h1, p, _⟩ := id rv
  refine ⟨a, vs, rfl, .inl (.inl h1), r _ H2 s2 ⟨fun i S' H' lf hi => ?_, fun i S' H' v H'' x lf hx y => ?_, fun i S' H' lf hi => ?_⟩⟩
  · obtain ⟨a', vs', e', _, h1', p', _⟩ := lf.go _ _ _ rv
    cases e'
    have hi' : i < vs'.length := by rw [pLen p', ← enum_len l]; exact hi
    exact ⟨vs', vs'[i], .inl (.inl h1'), by simp [hi']⟩
  · obtain ⟨a', vs', e', _, h1', p', _⟩ := lf.go _ _ _ rv
    cases e'
    obtain ⟨T, z, rfl, nT, rfl, y⟩ := y
    obtain ⟨e1, e2⟩ := enum_at hx
    obtain ⟨u, hu, r⟩ := Paired.at2 p' e2
    have := y vs' (.inl (.inl h1'))
    rw [hu] at this
    cases this
    exact ⟨sameU nT, T, _, _, rfl, .inl (.inl upd_same), by rw [e1]; rfl, k.same (sameU nT) r⟩
  · obtain ⟨a', vs', e', _, h1', p', _⟩ := lf.go _ _ _ rv
    cases e'
    exact ⟨vs', .inl (.inl h1'), by rw [pLen p', ← enum_len l]; exact hi⟩
/-- one turn -/
def Lcb (ke : Kd K C β) (S : List Addr) (H : Hp) (g : TG) (tt : TT) (te : TE) (vs : List Nat) (σ : L2.St) (v : V) (b : Bool) (y : β) : Prop :=
  ∀ Q : L2.St → Hp → Prop, (∀ σ2, wipe σ2 vs = wipe σ vs → EvT H tt σ2 b → (b = true → Ev ke S H te σ2 y) → Q σ2 H) → g v (wipe σ vs) H Q
theorem lcb_name {ke : Kd K C β} {te : TE} {vs : List Nat} {v : V} {b : Bool} {y : β} {i : Nat} (hw : wipe ((wipe σ vs).set i (some v)) vs = wipe σ vs) (h1 : EvT H tt ((wipe σ vs).set i (some v)) b) (h2 : b = true → Ev ke S H te ((wipe σ vs).set i (some v)) y) :
    Lcb ke S H (gName i) tt te vs σ v b y := fun Q q => q _ hw h1 h2
theorem evn_lc {wi : TI} {g : TG} {te : TE} {vs : List Nat} {kx : Kd K C α} {ke : Kd K C β} {l : List α} {p : α → Bool} {f : α → β} (fr : Fr C S H) (hi : EvI kx S H wi σ l) (hl : l.length ≤ 1000000)
    (hb : ∀ y ∈ l, ∀ D v H', Lf K C S H (D :: S) H' → Fr C (D :: S) H' → kx.rp (D :: S) H' v y → Lcb ke (D :: S) H' g tt te vs σ v (p y) (f y)) : EvN (kL ke) S H (tLc wi g tt te vs) σ ((l.filter p).map f) := fun H1 s1 Q q => by
  refine hi H1 s1 _ fun J H2 s2 W D nD => ?_
  have f2 := fr.same (s1.trans s2)
  have s02 : Same H H2 := s1.trans s2
  have stepf : ∀ {i : Nat} {y : α}, l[i]? = some y → (l.take (i + 1)).filter p = (l.take i).filter p ++ (if p y = true then [y] else []) := fun {i y} h => by
    rw [take_more h, List.filter_append]
    congr 1
    cases e : p y <;> simp [e]
  refine ⟨fun i m Hx => m = l.length - i ∧ i ≤ l.length ∧ Same H2 Hx ∧ Fr C (D :: S) Hx ∧ ∃ us, Hx D = some (.lst us) ∧ Paired (ke.rp (D :: S) Hx) us (((l.take i).filter p).map f), ⟨l.length, by simp, Nat.zero_le _, sameU nD, f2.cons nD trivial, [], upd_same, .nil⟩, ?_⟩
  rintro i m Hx ⟨rfl, hi, sx, fx, us, hD, hP⟩
  have sD : Lf K C S H2 (D :: S) Hx := ⟨fun k v x h => k.same sx (k.new nD h), sx.tab⟩
  by_cases hlt : i < l.length
  · refine .inr ⟨W.go i _ Hx sD hlt, fun H' => i + 1 ≤ l.length ∧ Same H2 H' ∧ Fr C (D :: S) H' ∧ ∃ us, H' D = some (.lst us) ∧ Paired (ke.rp (D :: S) H') us (((l.take (i + 1)).filter p).map f), fun H' h => ⟨l.length - (i + 1), by omega, rfl, h⟩, fun v H' hy => ?_⟩
    have hx : l[i]? = some l[i] := by simp [hlt]
    obtain ⟨s3, rv⟩ := W.yld i (D :: S) Hx v H' l[i] sD hx hy
    have l3 : Lf K C S H (D :: S) H' := (Lf.same s02).trans (sD.trans (Lf.same s3))
    refine hb l[i] (List.getElem_mem _) D v H' l3 (fx.same s3) rv _ fun σ2 e1 e2 e3 => ⟨e1, e2 H' (Same.refl _) _ fun H4 s4 => ?_⟩
    have s34 := s3.trans s4
    cases hb : p l[i] with
    | true =>
      refine iteT (e3 hb H4 s4 _ fun w H5 s5 rw_ => ?_)
      have s35 := s34.trans s5
      have hD5 := s35 _ _ hD
      have hl2 : us.length < sizeLine := by
        rw [pLen hP, List.length_map]
        have h1 := List.length_filter_le p (l.take i)
        rw [List.length_take] at h1
        exact szl (by omega)
      have f5 := fx.same s35
      have su : Sx C (D :: S) H5 (upd H5 D (.lst (us ++ [w]))) := sx_upd f5 (by simp) trivial
      refine ⟨us, hD5, hl2, hlt, sameOwn (sx.trans s35) nD, su.fr, us ++ [w], upd_same, ?_⟩
      rw [stepf hx, hb, if_pos rfl, List.map_append]
      exact Paired.app (L2.Paired.mapP hP fun _ _ z => ke.sx f5 su (ke.same s35 z)) (.cons (ke.sx f5 su rw_) .nil)
    | false =>
      refine iteF ⟨hlt, sx.trans s34, fx.same s34, us, s34 _ _ hD, ?_⟩
      rw [stepf hx, hb, if_neg Bool.false_ne_true, List.append_nil]
      exact L2.Paired.mapP hP fun _ _ z => ke.same s34 z
  · have e : i = l.length := by omega
    subst e
    rw [List.take_length] at hP
    refine .inl ⟨W.stop _ _ Hx sD (Nat.le_refl _), q D Hx (s2.free nD) (s2.trans sx) ⟨D, us, rfl, f2.out nD, hD, L2.Paired.mapP hP fun _ _ z => ke.less (fun _ m => List.mem_cons_of_mem _ m) z, ?_⟩⟩
    rw [List.length_map]
    exact Nat.le_trans (List.length_filter_le _ _) hl
end
section
variable {K : PySem.W.Frag} {C : Addr} {α : Type} {kx : Kd K C α} {S : List Addr} {H : Hp} {σ : L2.St} {wi : TI} {g : TG} {tb : TS} {l : List α} {D : Ends}
/-- for .. : by an invariant that carries the facts -/
theorem s_for (hi : EvI kx S H wi σ l) (q : ∀ H2, Same H H2 → ∃ Iv : Nat → L2.St → Hp → Prop, Iv 0 σ H2 ∧ (∀ i σ' H', Iv i σ' H' → Lf K C S H2 S H') ∧
    (∀ i x σ' H' v H'', l[i]? = some x → Iv i σ' H' → Same H' H'' → kx.rp S H'' v x → g v σ' H'' fun σ2 H3 => tb { D with nx := Iv (i + 1), ct := Iv (i + 1), bk := D.nx } σ2 H3) ∧
    (∀ σ' H', Iv l.length σ' H' → D.nx σ' H')) : tFor wi g tb D σ H := by
  refine hi H (Same.refl _) _ fun J H2 s2 W => ?_
  obtain ⟨Iv, h0, lf, hs, hd⟩ := q H2 s2
  refine ⟨fun i m σ' H' => m = l.length - i ∧ i ≤ l.length ∧ Iv i σ' H', ⟨l.length, by simp, Nat.zero_le _, h0⟩, ?_⟩
  rintro i m σ' H' ⟨rfl, hl, iv⟩
  have f := lf _ _ _ iv
  by_cases hlt : i < l.length
  · refine .inr ⟨W.go i S H' f hlt, Iv (i + 1), fun σ2 H3 h => ⟨l.length - (i + 1), by omega, rfl, hlt, h⟩, fun v H3 hy => ?_⟩
    have hx : l[i]? = some l[i] := by simp [hlt]
    obtain ⟨s3, rv⟩ := W.yld i S H' v H3 _ f hx hy
    exact hs i _ σ' H' v H3 hx iv s3 rv
  · have e : i = l.length := by omega
    subst e
    exact .inl ⟨W.stop _ S H' f (Nat.le_refl _), hd _ _ iv⟩
end
section
variable {K : PySem.W.Frag} {C : Addr} {α β γ δ τ : Type}
/-- from such arguments that, the heap only grows -/
def spD (ks : Ka K C τ) (kr : Kd K C β) (pre : τ → Prop) (g : τ → β) : Sp := fun vs H Q _ => ∃ S a, Fr C S H ∧ ks.rps S H vs a ∧ pre a ∧ ∀ v H', Same H H' → kr.rp S H' v (g a) → Q v H'
/-- .. a new object -/
def spN (ks : Ka K C τ) (kr : Kd K C β) (pre : τ → Prop) (g : τ → β) : Sp := fun vs H Q _ => ∃ S a, Fr C S H ∧ ks.rps S H vs a ∧ pre a ∧ ∀ p H', H p = none → Same H H' → kr.rp S H' (.ref p) (g a) → Q (.ref p) H'
variable {ks : Ka K C τ} {kr : Kd K C β} {pre : τ → Prop} {g : τ → β} {S : List Addr} {H : Hp} {σ : L2.St} {ta : TA} {E : V → XK} {a : τ}
theorem ev_call {E} (ha : EvA ks S H ta σ a) (fr : Fr C S H) (hp : pre a) : Ev kr S H (tCall (spD ks kr pre g) [] E ta) σ (g a) := fun H1 s Q q => ha H1 s _ fun vs H2 s2 rv => by
  show spD ks kr pre g (vs ++ []) H2 Q _
  rw [List.append_nil]
  exact ⟨S, a, fr.same (s.trans s2), rv, hp, fun v H3 s3 r => q v H3 (s2.trans s3) r⟩
theorem evn_call {E} (ha : EvA ks S H ta σ a) (fr : Fr C S H) (hp : pre a) : EvN kr S H (tCall (spN ks kr pre g) [] E ta) σ (g a) := fun H1 s Q q => ha H1 s _ fun vs H2 s2 rv => by
  show spN ks kr pre g (vs ++ []) H2 Q _
  rw [List.append_nil]
  exact ⟨S, a, fr.same (s.trans s2), rv, hp, fun v H3 n s3 r => q v H3 (s2.free n) (s2.trans s3) r⟩
end
end Ew
namespace Ew
open PySem PySem.Spec PyProof.Rows L2
theorem iteTd {c : Bool} {A B : Prop} (h : c = true) (a : A) : if c = true then A else B := by rw [if_pos h]; exact a
theorem iteFd {c : Bool} {A B : Prop} (h : c = false) (a : B) : if c = true then A else B := by rw [h]; exact iteF a
section
variable {K : PySem.W.Frag} {C : Addr} {α β γ : Type} {k : Kd K C α} {k1 : Kd K C β} {k2 : Kd K C γ} {S : List Addr} {H : Hp} {σ : L2.St} {te ta tb : TE} {x : α} {y : β} {D : Ends} {u : TS} {i j m : Nat} {tt : TT} {b : Bool} {t1 t2 : TS}
theorem s_ret (h : Ev k S H te σ x) (q : ∀ v H2, Same H H2 → k.rp S H2 v x → D.rt v H2) : tRet te D σ H := h.use q
theorem s_retN (h : EvN k S H te σ x) (q : ∀ p H2, H p = none → Same H H2 → k.rp S H2 (.ref p) x → D.rt (.ref p) H2) : tRet te D σ H := h.use q
theorem s_set (h : Ev k S H te σ x) (q : ∀ v H2, Same H H2 → k.rp S H2 v x → D.nx (σ.set i (some v)) H2) : tAsg te (gName i) D σ H := h.use q
theorem s_setN (h : EvN k S H te σ x) (q : ∀ p H2, H p = none → Same H H2 → k.rp S H2 (.ref p) x → D.nx (σ.set i (some (.ref p))) H2) : tAsg te (gName i) D σ H := h.use q
theorem q_set (h : Ev k S H te σ x) (q : ∀ v H2, Same H H2 → k.rp S H2 v x → u D (σ.set i (some v)) H2) : tSeq (tAsg te (gName i)) u D σ H := h.use q
theorem q_setN (h : EvN k S H te σ x) (q : ∀ p H2, H p = none → Same H H2 → k.rp S H2 (.ref p) x → u D (σ.set i (some (.ref p))) H2) : tSeq (tAsg te (gName i)) u D σ H := h.use q
theorem q_set2 {z : α × β} (h : Ev (kP k k1) S H te σ z) (q : ∀ v1 v2 H2, Same H H2 → k.rp S H2 v1 z.1 → k1.rp S H2 v2 z.2 → u D ((σ.set i (some v1)).set j (some v2)) H2) : tSeq (tAsg te (gTup K 2 (gCons (gName i) (gCons (gName j) gNil)))) u D σ H :=
  h.use fun v H2 s ⟨t, v1, v2, e, hT, r1, r2⟩ => ⟨t, _, e, hT, rfl, v1, _, rfl, v2, _, rfl, rfl, q v1 v2 H2 s r1 r2⟩
theorem q_par (h : Ev k S H ta σ x) (g : Ev k1 S H tb σ y) (q : ∀ v1 v2 H2, Same H H2 → k.rp S H2 v1 x → k1.rp S H2 v2 y → u D ((σ.set i (some v1)).set j (some v2)) H2) : tSeq (tPar i j (tCons ta (tCons tb tNil))) u D σ H :=
  h.use fun v1 H2 s r1 => g H2 s _ fun v2 H3 s3 r2 => ⟨v1, v2, rfl, q v1 v2 H3 (s.trans s3) (k.same s3 r1) r2⟩
theorem q_parNN (h : EvN k S H ta σ x) (g : ∀ H1, Same H H1 → EvN k1 S H1 tb σ y) (q : ∀ p1 p2 H1 H2, H p1 = none → Same H H1 → k.rp S H1 (.ref p1) x → H1 p2 = none → Same H1 H2 → k1.rp S H2 (.ref p2) y → u D ((σ.set i (some (.ref p1))).set j (some (.ref p2))) H2) : tSeq (tPar i j (tCons ta (tCons tb tNil))) u D σ H :=
  h.use fun p1 H1 n1 s1 r1 => (g H1 s1).use fun p2 H2 n2 s2 r2 => ⟨_, _, rfl, q p1 p2 H1 H2 n1 s1 r1 n2 s2 r2⟩
theorem s_if (h : EvT H tt σ b) (p : ∀ H2, b = true → Same H H2 → t1 D σ H2) (q : ∀ H2, b = false → Same H H2 → t2 D σ H2) : tIfS tt t1 t2 D σ H := h.use fun H2 s => by
  cases b with
  | true => exact iteT (p H2 rfl s)
  | false => exact iteF (q H2 rfl s)
/-- if .. : return .. -/
theorem q_if (h : EvT H tt σ b) (p : ∀ H2, b = true → Same H H2 → t1 { D with nx := u D } σ H2) (q : ∀ H2, b = false → Same H H2 → u D σ H2) : tSeq (tIfS tt t1 tNext) u D σ H := h.use fun H2 s => by
  cases b with
  | true => exact iteT (p H2 rfl s)
  | false => exact iteF (q H2 rfl s)
end
end Ew
namespace Ew
open PySem PySem.Spec PyProof.Rows L2
structure DefAt (K : PySem.W.Frag) (mg : Str → Option Value) (x : Str) (st : Stmt) (ps : List Str) : Prop where
  ex : ∃ f fd, Fun K x x st f fd ∧ Binds K fd ps [] ∧ mg x = some (.ref f)
structure Bk where
  ds : List Int
  rs : List (Int × List Int)
section
variable {K : PySem.W.Frag} {C : Addr} {S : List Addr} {H H' : Hp}
theorem RdT.sx {v : V} {r : Int × List Int} (f : Fr C S H) (s : Sx C S H H') (h : RdT K H v r) : RdT K H' v r := let ⟨t, m, e, q, q2⟩ := h; ⟨t, m, e, sqT_sx f s q, sqT_sx f s q2⟩
def kBk : Kd K C Bk where
  rp S H v b := ∃ x dx A R us, v = .ref x ∧ H x = some (.ins C dx (bf A R)) ∧ H A = some (.lst (b.ds.map V.int)) ∧ H R = some (.lst us) ∧ A ∉ S ∧ R ∉ S ∧ Paired (RdT K H) us b.rs ∧ DsOk b.ds b.rs
  same s h := let ⟨x, dx, A, R, us, e, h1, h2, h3, n1, n2, p, o⟩ := h; ⟨x, dx, A, R, us, e, s _ _ h1, s _ _ h2, s _ _ h3, n1, n2, L2.Paired.mapP p fun _ _ z => z.same s, o⟩
  sx {S H H' v b} f s h := by
    obtain ⟨x, dx, A, R, us, e, h1, h2, h3, n1, n2, p, o⟩ := h
    refine ⟨x, dx, A, R, us, e, s.old _ _ (fun m => ?_) h1, s.old _ _ n1 h2, s.old _ _ n2 h3, n1, n2, L2.Paired.mapP p fun _ _ z => z.sx f s, o⟩
    obtain ⟨o, e, w⟩ := f _ m
    rw [h1] at e
    cases e
    exact w rfl
  new {S H p v b} hn h := by
    obtain ⟨x, dx, A, R, us, e, h1, h2, h3, n1, n2, pp, o⟩ := h
    refine ⟨x, dx, A, R, us, e, h1, h2, h3, fun m => ?_, fun m => ?_, pp, o⟩
    · rcases List.mem_cons.mp m with rfl | m
      · rw [hn] at h2; cases h2
      · exact n1 m
    · rcases List.mem_cons.mp m with rfl | m
      · rw [hn] at h3; cases h3
      · exact n2 m
  less m h := let ⟨x, dx, A, R, us, e, h1, h2, h3, n1, n2, p, o⟩ := h; ⟨x, dx, A, R, us, e, h1, h2, h3, fun z => n1 (m _ z), fun z => n2 (m _ z), p, o⟩
theorem kBk.ok {v : V} {b : Bk} (h : (kBk (K := K) (C := C)).rp S H v b) : DsOk b.ds b.rs := let ⟨_, _, _, _, _, _, _, _, _, _, _, _, o⟩ := h; o
/-- (limit, may) -/
abbrev kR : Kd K C (Int × List Int) := kP kI (kT kI)
theorem rd_kR {v : V} {r : Int × List Int} (h : RdT K H v r) (b : r.2.length ≤ 1000000) : (kR (K := K) (C := C)).rp S H v r := let ⟨t, m, e, q, q2⟩ := h; ⟨t, _, .ref m, e, q, rfl, m, _, rfl, q2, paired_ints _, b⟩
theorem kR_rd {v : V} {r : Int × List Int} (h : (kR (K := K) (C := C)).rp S H v r) : RdT K H v r := by
  obtain ⟨t, v1, v2, e, q, h1, h2⟩ := h
  obtain ⟨m, rfl, q2, _⟩ := kT_ints h2
  cases (show v1 = .int r.1 from h1)
  exact ⟨t, m, e, q, q2⟩
theorem DsOk.may {ds : List Int} {rs : List (Int × List Int)} (o : DsOk ds rs) {r : Int × List Int} (h : r ∈ rs) : r.2.length ≤ 6 := by
  have h1 := (o.ok r h).2.2.len (by omega)
  have := o.n6
  omega
theorem rds_kR {us : List V} {rs : List (Int × List Int)} (h : Paired (RdT K H) us rs) (b : ∀ r ∈ rs, r.2.length ≤ 1000000) : Paired ((kR (K := K) (C := C)).rp S H) us rs := by
  induction h with
  | nil => exact .nil
  | cons a t ih => exact .cons (rd_kR a (b _ (by simp))) (ih fun r hr => b r (by simp [hr]))
theorem kBk.isBook {v : V} {b : Bk} (h : (kBk (K := K) (C := C)).rp S H v b) : ∃ f x us, v = .ref x ∧ IsBook K C f H x b.ds us b.rs := by
  obtain ⟨x, dx, A, R, us, e, h1, h2, h3, n1, n2, p, o⟩ := h
  have a1 : A ≠ A + R + 1 := Nat.ne_of_lt (Nat.lt_succ_of_le (Nat.le_add_right _ _))
  have a2 : R ≠ A + R + 1 := Nat.ne_of_lt (Nat.lt_succ_of_le (Nat.le_add_left _ _))
  exact ⟨A + R + 1, x, us, e, dx, A, R, h1, h2, h3, a1, a2, p⟩
abbrev sLenB : Stmt := (inClass (top 26) 3)
def spLenB (K : PySem.W.Frag) (C : Addr) : Sp := fun vs H Q _ => ∃ (f x : Addr) (ds : List Int) (us : List V) (rs : List (Int × List Int)), vs = [.ref x] ∧ IsBook K C f H x ds us rs ∧ Q (.int ds.length) H
theorem scLenB : FnScope ["self"] ["self"] (defScope sLenB) := ⟨rfl, rfl, rfl, by decide +kernel, rfl, by decide +kernel, by decide +kernel⟩
theorem ok_lenB {P : Program} {w : World} {mg : Str → Option Value} {base : Heap} {f : Addr} {fd : FuncData} (F : Fun K "__len__" "Book.__len__" sLenB f fd) (B : Bi mg) (T : BookTxt K mg C) : FnOk P w K mg base CX0 1 f fd ["self"] (spLenB K C) := by
  refine F.ok scLenB (fun vs H Q E h => ?_) (fun cdv A outer s H vs Q E hr h => ?_)
  · obtain ⟨f, x, ds, us, rs, rfl, _⟩ := h
    rfl
  · obtain ⟨f, x, ds, us, rs, rfl, ⟨dx, A, R, h1, h2, h3, h4, h5, h6⟩, q⟩ := h
    refine ⟨_, pss_one (ps_ret (pe_callB call_len_seq (by rfl) B.len PySem.boot_len (pa_cons (pe_fld (pv 0) rfl) pa_nil))), ?_⟩
    refine ⟨_, rfl, x, C, dx, _, _, rfl, h1, T.cl, T.nD, bf_dem _ _, A, _, rfl, .inl (.inl (.inl h2)), ?_⟩
    rw [List.length_map]
    exact q
/-- what is known of the class, as the rules want it -/
structure BkC (P : Program) (w : World) (K : PySem.W.Frag) (mg : Str → Option Value) (base : Heap) (C : Addr) : Prop where
  dem : C8.Met P w K mg base 1 C "demands" (spBkDem K C) []
  rd : C8.Met P w K mg base 1 C "readers" (spBkRd K C) []
  ln : C8.Met P w K mg base 1 C "__len__" (spLenB K C) []
  eq : C8.Met P w K mg base 1 C "__eq__" (spBkEq K C) []
  mak : C8.Mak P w K mg base 4 "Book" C (spBkInit K C) []
  ic : C8.InsC K C
  sub : PySem.W.notFirst K C (.ref C) = true
end
section
variable {P : Program} {w : World} {K : PySem.W.Frag} {mg : Str → Option Value} {base : Heap} {C : Addr}
theorem bkC_of (T : BookTxt K mg C) (V1 : Vals1 K mg) (N : NoBook K C) (LN : ∃ f fd, Fun K "__len__" "Book.__len__" sLenB f fd ∧ Binds K fd ["self"] [] ∧ Meth K C "__len__" f) : BkC P w K mg base C := by
  have B := V1.bi
  obtain ⟨f, fd, F, b, m⟩ := T.dem
  obtain ⟨f2, fd2, F2, b2, m2⟩ := T.rd
  obtain ⟨f3, fd3, F3, b3, m3⟩ := LN
  obtain ⟨f4, fd4, F4, b4, m4⟩ := T.eq
  obtain ⟨f5, fd5, F5, b5, m5⟩ := T.init
  exact ⟨⟨f, fd, _, _, T.cl, m, ok_bkDem F B T, b, .nil⟩, ⟨f2, fd2, _, _, T.cl, m2, ok_bkRd F2 B T, b2, .nil⟩, ⟨f3, fd3, _, _, T.cl, m3, ok_lenB F3 B T, b3, .nil⟩, ⟨f4, fd4, _, _, T.cl, m4, ok_bkEq F4 B T N, b4, .nil⟩, ⟨f5, fd5, _, _, m5, ok_bkInit F5 V1 T, T.mgC, b5, .nil⟩, T.ic, T.sub⟩
/-- a def on data by its body -/
theorem cal_of {x : Str} {st : Stmt} {N ps : List Str} {k : Nat} {sp : Sp} (D : DefAt K mg x st ps) (sc : FnScope N ps (defScope st)) (len : ∀ vs H Q E, sp vs H Q E → vs.length = ps.length)
    (hbody : ∀ (f : Addr) (cdv : Value) (A : Around) (outer : List Env) (s : Shared) (H : Hp) (vs : List V) (Q : VK) (E : XK), Room k (A.deeper (envOfC x (defScope st) s.heap.objs.size f cdv)) → sp vs H Q E →
      ∃ t, PSs (cxOf CX0 P w K mg base N x (defScope st) f cdv A outer s H E).nox (defBody st) t ∧ t { nx := fun _ H' => Q .non H', rt := Q } (start N vs) H) : C8.Cal P w K mg base (k + 1) x sp [] := by
  obtain ⟨f, fd, F, b, g⟩ := D.ex
  exact ⟨f, fd, ps, [], F.ok sc len (hbody f), g, F.kp, b, .nil⟩
variable {τ β : Type} {ks : Ka K C τ} {kr : Kd K C β} {pre : τ → Prop} {g : τ → β}
theorem calD {x : Str} {st : Stmt} {N ps : List Str} {k : Nat} (D : DefAt K mg x st ps) (sc : FnScope N ps (defScope st)) (hn : ks.n = ps.length)
    (hbody : ∀ (f : Addr) (cdv : Value) (A : Around) (outer : List Env) (s : Shared) (H : Hp) (vs : List V) (Q : VK) (E : XK) (S : List Addr) (a : τ), Room k (A.deeper (envOfC x (defScope st) s.heap.objs.size f cdv)) → Fr C S H → ks.rps S H vs a → pre a → (∀ v H', Same H H' → kr.rp S H' v (g a) → Q v H') →
      ∃ t, PSs (cxOf CX0 P w K mg base N x (defScope st) f cdv A outer s H E).nox (defBody st) t ∧ t { nx := fun _ H' => Q .non H', rt := Q } (start N vs) H) : C8.Cal P w K mg base (k + 1) x (spD ks kr pre g) [] :=
  cal_of D sc (fun vs H Q E ⟨S, a, _, h, _⟩ => by rw [ks.len h, hn]) fun f cdv A outer s H vs Q E hr ⟨S, a, h1, h2, h3, h4⟩ => hbody f cdv A outer s H vs Q E S a hr h1 h2 h3 h4
theorem calN {x : Str} {st : Stmt} {N ps : List Str} {k : Nat} (D : DefAt K mg x st ps) (sc : FnScope N ps (defScope st)) (hn : ks.n = ps.length)
    (hbody : ∀ (f : Addr) (cdv : Value) (A : Around) (outer : List Env) (s : Shared) (H : Hp) (vs : List V) (Q : VK) (E : XK) (S : List Addr) (a : τ), Room k (A.deeper (envOfC x (defScope st) s.heap.objs.size f cdv)) → Fr C S H → ks.rps S H vs a → pre a → (∀ p H', H p = none → Same H H' → kr.rp S H' (.ref p) (g a) → Q (.ref p) H') →
      ∃ t, PSs (cxOf CX0 P w K mg base N x (defScope st) f cdv A outer s H E).nox (defBody st) t ∧ t { nx := fun _ H' => Q .non H', rt := Q } (start N vs) H) : C8.Cal P w K mg base (k + 1) x (spN ks kr pre g) [] :=
  cal_of D sc (fun vs H Q E ⟨S, a, _, h, _⟩ => by rw [ks.len h, hn]) fun f cdv A outer s H vs Q E hr ⟨S, a, h1, h2, h3, h4⟩ => hbody f cdv A outer s H vs Q E S a hr h1 h2 h3 h4
variable {S : List Addr} {H : Hp} {σ : L2.St} {te : TE} {b : Bk}
theorem evn_rd (h : Ev (kBk (K := K) (C := C)) S H te σ b) (fr : Fr C S H) : EvN (K := K) (C := C) (kL kR) S H (tMeth C "readers" (spBkRd K C) [] E0 te tNil) σ b.rs := fun H1 s Q q => h H1 s _ fun v H2 s2 r => by
  obtain ⟨x, dx, A, R, us, rfl, h1, h2, h3, n1, n2, p, o⟩ := id r
  obtain ⟨f, x', us', e, hb⟩ := kBk.isBook r
  cases e
  refine ⟨x, dx, _, rfl, h1, bf_no _ _ (by decide +kernel) (by decide +kernel), f, x, b.ds, us', b.rs, rfl, hb, fun H3 c s3 nc hc => ?_⟩
  have p' : Paired (RdT K H2) us' b.rs := let ⟨_, _, _, _, _, _, _, _, z⟩ := hb; z
  exact q c H3 (s2.free nc) (s2.trans s3) ⟨c, _, rfl, (fr.same (s.trans s2)).out nc, hc, rds_kR (L2.Paired.mapP p' fun _ _ z => z.same s3) fun r hr => Nat.le_trans (o.may hr) (by decide), Nat.le_trans o.r6 (by decide)⟩
def rLenBk (K : PySem.W.Frag) (C : Addr) : List V → Hp → VK → Prop := fun xs H Q => ∃ a dx fs, xs = [.ref a] ∧ H a = some (.ins C dx fs) ∧ spLenB K C [.ref a] H (fun v H' => ∃ k : Int, v = .int k ∧ (0 ≤ k ∧ k < 2 ^ 63) ∧ Q (.int k) H') C8.E0
theorem ev_lenBk (h : Ev (kBk (K := K) (C := C)) S H te σ b) : Ev (K := K) (C := C) kI S H (tCB (rLenBk K C) (tCons te tNil)) σ (b.ds.length : Nat) :=
  ev_cb (eva_cons h eva_nil) fun vs H1 s rv Q q => by
    obtain ⟨v, r, rfl, r1, e⟩ := rv
    cases (show r = [] from e)
    obtain ⟨x, dx, A, R, us, rfl, h1, h2, h3, n1, n2, p, o⟩ := id r1
    obtain ⟨f, x', us', e, hb⟩ := kBk.isBook r1
    cases e
    have n6 : b.ds.length ≤ 6 := o.n6
    exact ⟨x, dx, _, rfl, h1, f, x, b.ds, us', b.rs, rfl, hb, _, rfl, by constructor <;> omega, q _ H1 (Same.refl _) rfl⟩
def rEqBk (K : PySem.W.Frag) (C : Addr) : R2 := rOwnEq K C (spBkEq K C) false
theorem ev_eqBk {b b' : Bk} {tb : TE} (h : Ev (kBk (K := K) (C := C)) S H te σ b) (g : Ev (kBk (K := K) (C := C)) S H tb σ b') (ic : C8.InsC K C) (sub : PySem.W.notFirst K C (.ref C) = true) : Ev (K := K) (C := C) kB S H (tOp (rEqBk K C) te tb) σ (decide (b.ds = b'.ds) && decide (b.rs = b'.rs)) :=
  ev_op2 h g fun v w H1 s r1 r2 Q q => by
    obtain ⟨x, dx, A, R, us, rfl, h1, _⟩ := id r1
    obtain ⟨y, dy, A', R', us', rfl, k1, _⟩ := id r2
    obtain ⟨f, x', ux, e, hb⟩ := kBk.isBook r1
    cases e
    obtain ⟨f2, y', uy, e, hb2⟩ := kBk.isBook r2
    cases e
    exact ⟨x, dx, _, _, rfl, h1, .base (.ins k1 ic.cl ic.ha ic.hn ic.htk ic.hm), sub, f, x, _, b.ds, ux, b.rs, rfl, hb, .inl ⟨f2, y, b'.ds, uy, b'.rs, rfl, hb2, _, rfl, q _ H1 (Same.refl _) rfl⟩⟩
theorem kR_rds {us : List V} {rs : List (Int × List Int)} (h : Paired ((kR (K := K) (C := C)).rp S H) us rs) : Paired (RdT K H) us rs := L2.Paired.mapP h fun _ _ z => kR_rd z
/-- Book(demands, readers) -/
theorem evn_mkBk {ds : List Int} {rs : List (Int × List Int)} {tb : TE} (h : Ev (kL (kI (K := K) (C := C))) S H te σ ds) (g : Ev (kL (kR (K := K) (C := C))) S H tb σ rs) (fr : Fr C S H) (o : DsOk ds rs) : EvN (K := K) (C := C) kBk S H (tMake C (spBkInit K C) [] C8.E0 (tCons te (tCons tb tNil))) σ ⟨ds, rs⟩ := fun H1 s Q q => (eva_cons h (eva_cons g eva_nil)) H1 s _ fun vs H2 s2 rv => by
  obtain ⟨v1, r1, rfl, h1, v2, r2, e, h2, e2⟩ := rv
  cases (show r1 = _ from e)
  cases (show r2 = [] from e2)
  obtain ⟨A1, rfl, nA1, hA1, _⟩ := kL_ints h1
  obtain ⟨R1, us, rfl, nR1, hR1, pR, _⟩ := h2
  intro x dx nx ndx nex
  have s0 : Same H2 (upd (upd H2 dx (.own x)) x (.ins C dx [])) := .of fun b o e => by
    rw [upd_ne (ne_of_none e nx), upd_ne (ne_of_none e ndx)]
    exact e
  have pr := kR_rds pR
  refine ⟨x, dx, A1, R1, ds, us, rs, rfl, upd_same, s0.seq (.inl (.inl hA1)), s0.seq (.inl (.inl hR1)), L2.Paired.mapP pr fun _ _ z => z.same s0, o, fun H4 A2 R2 keep nA nR hx hA2 hR2 => ⟨rfl, ?_⟩⟩
  have s4 : Same H2 H4 := keep H2 s0 nx
  have f2 := fr.same (s.trans s2)
  have nA2 : H2 A2 = none := s0.free nA
  have nR2 : H2 R2 = none := s0.free nR
  exact q x H4 (s2.free nx) (s2.trans s4) ⟨x, dx, A2, R2, us, rfl, hx, hA2, hR2, f2.out nA2, f2.out nR2, L2.Paired.mapP pr fun _ _ z => z.same s4, o⟩
end
section
variable {X : Cx} {C : Addr} {j : Nat}
theorem call_lenBk (T : BkC X.prog X.w X.K X.mg X.base C) (hr : Room j X.A) (hj : 2 ≤ j) : CallR X (.builtin "len") (rLenBk X.K C) := by
  obtain ⟨f, fd, ps, ds, c, m, F, b, d⟩ := T.ln.ex
  cases d
  exact call_lenOwn F (hr.mono hj) m.at_ m.fn b
theorem op_eqBk (T : BkC X.prog X.w X.K X.mg X.base C) (hr : Room j X.A) (hj : 1 ≤ j) : OpR X (compareOp .Eq) (rEqBk X.K C) := by
  obtain ⟨f, fd, ps, ds, c, m, F, b, d⟩ := T.eq.ex
  cases d
  exact op_eqOwn F (hr.mono hj) m.at_ m.fn b
end
end Ew
namespace Ew
open PySem PySem.Spec PyProof.Rows L2
def presB (b : Bk) (as : List Int) : List Int := (iota b.rs.length).filter fun r => !decide (r ∈ as)
def freeB (b : Bk) (ws : List (List Int)) (r : Int) : Bool := decide (((at_ ws r).length : Int) < (at_ b.rs r).1)
def canB (b : Bk) (ws : List (List Int)) (r w : Int) : Bool := decide (w ∈ (at_ b.rs r).2) && !decide (w ∈ at_ ws r)
def takersB (b : Bk) (ws : List (List Int)) (as : List Int) (w : Int) : List Int := (presB b as).filter fun r => canB b ws r w
def looseB (kw ws : List (List Int)) (r : Int) : List Int := (at_ ws r).filter fun w => !decide (w ∈ at_ kw r)
/-- the number of a reader -/
def IsRd (b : Bk) (ws : List (List Int)) (r : Int) : Prop := (0 ≤ r ∧ r < ws.length) ∧ ws.length = b.rs.length
theorem presB_len (b : Bk) (as : List Int) : (presB b as).length ≤ b.rs.length := by
  unfold presB
  exact Nat.le_trans (List.length_filter_le _ _) (by rw [iota_len]; omega)
theorem IsRd.of {b : Bk} {ws : List (List Int)} {as : List Int} {r : Int} (h : ws.length = b.rs.length) (m : r ∈ presB b as) : IsRd b ws r := by
  unfold presB at m
  have := iota_mem.mp (List.mem_filter.mp m).1
  exact ⟨by omega, h⟩
section
variable {P : Program} {w : World} {K : PySem.W.Frag} {mg : Str → Option Value} {base : Heap} {C : Addr}
abbrev sPresent : Stmt := (top 7)
def sp_present_readers (K : PySem.W.Frag) (C : Addr) : Sp := spN (K := K) (C := C) (aC kBk (aC (kT kI) aN)) (kL kI) (fun (b , as , _) => True) fun (b, as, _) => presB b as
theorem scPresent : FnScope ["book", "absent", "reader"] ["book", "absent"] (defScope sPresent) := ⟨rfl, rfl, rfl, by decide +kernel, rfl, by decide +kernel, by decide +kernel⟩
theorem c_present_readers (D : DefAt K mg "present_readers" sPresent ["book", "absent"]) (B : Bi mg) (T : BkC P w K mg base C)   : C8.Cal P w K mg base 2 "present_readers" (sp_present_readers K C) [] := by
  refine calN D scPresent rfl fun f cdv A outer s H vs Q E S a hr fr ha hp q => ?_
  obtain ⟨b, as, _⟩ := a
  obtain ⟨w_book, _, rfl, h_book, w_absent, _, rfl, h_absent, e⟩ := ha
  cases (show _ = [] from e)
  have h_book : (kBk : Kd K C _).rp S H w_book b := h_book
  have h_absent : ((kT kI) : Kd K C _).rp S H w_absent as := h_absent
  have ok_book := kBk.ok h_book
  have r6_book := ok_book.r6
  have n6_book := ok_book.n6
  have n1_book := ok_book.n1
  have n_absent := kT_len h_absent
  have q : ∀ p H', H p = none → Same H H' → ((kL kI) : Kd K C _).rp S H' (.ref p) (presB b as) → Q (.ref p) H' := q

  refine ⟨_, (pss_one (ps_ret (pe_lc (own := [("reader", 2)]) (g := (gName 2)) (tt := (tTest (tOp (rIn K true) (tVar 2) (tVar 1)))) (te := (tVar 2)) rfl scPresent.nd (pi_range1 rfl B.range (pa_cons (pe_callB call_len_seq (by rfl) B.len PySem.boot_len (pa_cons (C8.pe_mt0 T.rd hr (by decide) (pv 0)) pa_nil)) pa_nil)) (blkOk_by (own := [("reader", 2)]) (N := ["book", "absent", "reader"]) (sc := defScope sPresent) (by decide +kernel)) (fun _ _ _ _ _ => (pg_name (i := 2) scPresent.nd rfl (.inl rfl))) (fun _ _ _ _ _ => pts_one (pt_cmpR op_notIn_seq (pv 2) (pv 1) (by rfl))) (fun _ _ _ _ _ => (pv 2))))), ?_⟩
  try dsimp only [cxOf, Cx.nox, Cx.wish]
  exact s_retN (EvN.to (evn_lc fr (evi_rng (ev_len (EvN.ev (evn_rd (ev_var rfl h_book Lf.refl) fr)) IsSq.l) (by first | omega | (dsimp only; omega)) (by first | omega | (dsimp only; omega))) (by rw [iota_len]; omega) (fun y1 hy1 D1 v1 H1 l1 f1 hv1 => lcb_name rfl (evt_test (ev_nin (ev_var rfl hv1 Lf.refl) (ev_var rfl h_absent l1) IsSq.t)) (fun ht1 => (ev_var rfl hv1 Lf.refl)))) (List.map_id' _)) fun p H' n s' r => q p H' n s' r
abbrev sFree : Stmt := (top 9)
def sp_is_free (K : PySem.W.Frag) (C : Addr) : Sp := spD (K := K) (C := C) (aC kBk (aC (kL (kT kI)) (aC kI aN))) kB (fun (b , ws , r , _) => IsRd b ws r) fun (b, ws, r, _) => freeB b ws r
theorem scFree : FnScope ["book", "rows", "reader"] ["book", "rows", "reader"] (defScope sFree) := ⟨rfl, rfl, rfl, by decide +kernel, rfl, by decide +kernel, by decide +kernel⟩
theorem c_is_free (D : DefAt K mg "is_free" sFree ["book", "rows", "reader"]) (B : Bi mg) (T : BkC P w K mg base C)   : C8.Cal P w K mg base 2 "is_free" (sp_is_free K C) [] := by
  refine calD D scFree rfl fun f cdv A outer s H vs Q E S a hr fr ha hp q => ?_
  obtain ⟨b, ws, r, _⟩ := a
  obtain ⟨w_book, _, rfl, h_book, w_rows, _, rfl, h_rows, w_reader, _, rfl, h_reader, e⟩ := ha
  cases (show _ = [] from e)
  have h_book : (kBk : Kd K C _).rp S H w_book b := h_book
  have h_rows : ((kL (kT kI)) : Kd K C _).rp S H w_rows ws := h_rows
  have h_reader : (kI : Kd K C _).rp S H w_reader r := h_reader
  have ok_book := kBk.ok h_book
  have r6_book := ok_book.r6
  have n6_book := ok_book.n6
  have n1_book := ok_book.n1
  have n_rows := kL_len h_rows
  have q : ∀ v H', Same H H' → (kB : Kd K C _).rp S H' v (freeB b ws r) → Q v H' := q
  obtain ⟨⟨p1, p2⟩, p3⟩ : IsRd b ws r := hp
  refine ⟨_, (pss_one (ps_ret (pe_cmpR op_lt (pe_callB call_len_seq (by rfl) B.len PySem.boot_len (pa_cons (pe_ix ix_list (pv 1) (pv 2) (fun _ _ => rfl)) pa_nil)) (pe_ix ix_tup (pe_ix ix_list (C8.pe_mt0 T.rd hr (by decide) (pv 0)) (pv 2) (fun _ _ => rfl)) pe_int (fun _ _ => rfl)) (nomark _)))), ?_⟩
  try dsimp only [cxOf, Cx.nox, Cx.wish]
  exact s_ret (Ev.to (ev_B2 (ev_len (ev_ixL (ev_var rfl h_rows Lf.refl) (ev_var rfl h_reader Lf.refl) (by first | omega | (dsimp only; omega))) IsSq.t) (ev_fst (ev_ixL (EvN.ev (evn_rd (ev_var rfl h_book Lf.refl) fr)) (ev_var rfl h_reader Lf.refl) (by first | omega | (dsimp only; omega))))) rfl) fun v H' s' r => q v H' s' r
abbrev sCanT : Stmt := (top 10)
def sp_can_take (K : PySem.W.Frag) (C : Addr) : Sp := spD (K := K) (C := C) (aC kBk (aC (kL (kT kI)) (aC kI (aC kI aN)))) kB (fun (b , ws , r , z , _) => IsRd b ws r) fun (b, ws, r, z, _) => canB b ws r z
theorem scCanT : FnScope ["book", "rows", "reader", "work"] ["book", "rows", "reader", "work"] (defScope sCanT) := ⟨rfl, rfl, rfl, by decide +kernel, rfl, by decide +kernel, by decide +kernel⟩
theorem c_can_take (D : DefAt K mg "can_take" sCanT ["book", "rows", "reader", "work"]) (B : Bi mg) (T : BkC P w K mg base C)   : C8.Cal P w K mg base 2 "can_take" (sp_can_take K C) [] := by
  refine calD D scCanT rfl fun f cdv A outer s H vs Q E S a hr fr ha hp q => ?_
  obtain ⟨b, ws, r, z, _⟩ := a
  obtain ⟨w_book, _, rfl, h_book, w_rows, _, rfl, h_rows, w_reader, _, rfl, h_reader, w_work, _, rfl, h_work, e⟩ := ha
  cases (show _ = [] from e)
  have h_book : (kBk : Kd K C _).rp S H w_book b := h_book
  have h_rows : ((kL (kT kI)) : Kd K C _).rp S H w_rows ws := h_rows
  have h_reader : (kI : Kd K C _).rp S H w_reader r := h_reader
  have h_work : (kI : Kd K C _).rp S H w_work z := h_work
  have ok_book := kBk.ok h_book
  have r6_book := ok_book.r6
  have n6_book := ok_book.n6
  have n1_book := ok_book.n1
  have n_rows := kL_len h_rows
  have q : ∀ v H', Same H H' → (kB : Kd K C _).rp S H' v (canB b ws r z) → Q v H' := q
  obtain ⟨⟨p1, p2⟩, p3⟩ : IsRd b ws r := hp
  refine ⟨_, (pss_one (ps_ret (pe_and (pe_cmpR op_in_seq (pv 3) (pe_ix ix_tup (pe_ix ix_list (C8.pe_mt0 T.rd hr (by decide) (pv 0)) (pv 2) (fun _ _ => rfl)) pe_int (fun _ _ => rfl)) (by rfl)) (pe_one (pe_cmpR op_notIn_seq (pv 3) (pe_ix ix_list (pv 1) (pv 2) (fun _ _ => rfl)) (by rfl)))))), ?_⟩
  try dsimp only [cxOf, Cx.nox, Cx.wish]
  exact s_ret (Ev.to (ev_andV (ev_in (ev_var rfl h_work Lf.refl) (ev_snd (ev_ixL (EvN.ev (evn_rd (ev_var rfl h_book Lf.refl) fr)) (ev_var rfl h_reader Lf.refl) (by first | omega | (dsimp only; omega)))) IsSq.t) (fun _ => (ev_nin (ev_var rfl h_work Lf.refl) (ev_ixL (ev_var rfl h_rows Lf.refl) (ev_var rfl h_reader Lf.refl) (by first | omega | (dsimp only; omega))) IsSq.t))) rfl) fun v H' s' r => q v H' s' r
abbrev sTakers : Stmt := (top 11)
def sp_takers (K : PySem.W.Frag) (C : Addr) : Sp := spN (K := K) (C := C) (aC kBk (aC (kL (kT kI)) (aC (kT kI) (aC kI aN)))) (kL kI) (fun (b , ws , as , z , _) => ws.length = b.rs.length) fun (b, ws, as, z, _) => takersB b ws as z
theorem scTakers : FnScope ["book", "rows", "absent", "work", "reader"] ["book", "rows", "absent", "work"] (defScope sTakers) := ⟨rfl, rfl, rfl, by decide +kernel, rfl, by decide +kernel, by decide +kernel⟩
theorem c_takers (D : DefAt K mg "takers" sTakers ["book", "rows", "absent", "work"]) (B : Bi mg) (T : BkC P w K mg base C) (c_present_readers : C8.Cal P w K mg base 2 "present_readers" (sp_present_readers K C) []) (c_can_take : C8.Cal P w K mg base 2 "can_take" (sp_can_take K C) [])  : C8.Cal P w K mg base 3 "takers" (sp_takers K C) [] := by
  refine calN D scTakers rfl fun f cdv A outer s H vs Q E S a hr fr ha hp q => ?_
  obtain ⟨b, ws, as, z, _⟩ := a
  obtain ⟨w_book, _, rfl, h_book, w_rows, _, rfl, h_rows, w_absent, _, rfl, h_absent, w_work, _, rfl, h_work, e⟩ := ha
  cases (show _ = [] from e)
  have h_book : (kBk : Kd K C _).rp S H w_book b := h_book
  have h_rows : ((kL (kT kI)) : Kd K C _).rp S H w_rows ws := h_rows
  have h_absent : ((kT kI) : Kd K C _).rp S H w_absent as := h_absent
  have h_work : (kI : Kd K C _).rp S H w_work z := h_work
  have ok_book := kBk.ok h_book
  have r6_book := ok_book.r6
  have n6_book := ok_book.n6
  have n1_book := ok_book.n1
  have n_rows := kL_len h_rows
  have n_absent := kT_len h_absent
  have q : ∀ p H', H p = none → Same H H' → ((kL kI) : Kd K C _).rp S H' (.ref p) (takersB b ws as z) → Q (.ref p) H' := q
  have hp : ws.length = b.rs.length := hp
  refine ⟨_, (pss_one (ps_ret (pe_lc (own := [("reader", 4)]) (g := (gName 4)) (tt := (tB (tCall (sp_can_take K C) [] C8.E0 (tCons (tVar 0) (tCons (tVar 1) (tCons (tVar 4) (tCons (tVar 3) tNil))))))) (te := (tVar 4)) rfl scTakers.nd (pi_list (C8.pe_c c_present_readers hr (by decide) (by rfl) (pa_cons (pv 0) (pa_cons (pv 2) pa_nil)))) (blkOk_by (own := [("reader", 4)]) (N := ["book", "rows", "absent", "work", "reader"]) (sc := defScope sTakers) (by decide +kernel)) (fun _ _ _ _ _ => (pg_name (i := 4) scTakers.nd rfl (.inl rfl))) (fun _ _ _ _ _ => pts_one (pt_val (C8.pe_c c_can_take hr (by decide) (by rfl) (pa_cons (pv 0) (pa_cons (pv 1) (pa_cons (pv 4) (pa_cons (pv 3) pa_nil))))))) (fun _ _ _ _ _ => (pv 4))))), ?_⟩
  try dsimp only [cxOf, Cx.nox, Cx.wish]
  exact s_retN (EvN.to (evn_lc fr (evi_list (EvN.ev (evn_call (eva_cons (ev_var rfl h_book Lf.refl) (eva_cons (ev_var rfl h_absent Lf.refl) eva_nil)) fr trivial))) (by dsimp only; have := presB_len b as; omega) (fun y1 hy1 D1 v1 H1 l1 f1 hv1 => lcb_name rfl (evt_b (ev_call (eva_cons (ev_var rfl h_book l1) (eva_cons (ev_var rfl h_rows l1) (eva_cons (ev_var rfl hv1 Lf.refl) (eva_cons (ev_var rfl h_work l1) eva_nil)))) f1 (IsRd.of hp hy1))) (fun ht1 => (ev_var rfl hv1 Lf.refl)))) (List.map_id' _)) fun p H' n s' r => q p H' n s' r
abbrev sLoose : Stmt := (top 12)
def sp_loose_works (K : PySem.W.Frag) (C : Addr) : Sp := spN (K := K) (C := C) (aC (kL (kT kI)) (aC (kL (kT kI)) (aC kI aN))) (kL kI) (fun (kw , ws , r , _) => (0 ≤ r ∧ r < ws.length) ∧ kw.length = ws.length) fun (kw, ws, r, _) => looseB kw ws r
theorem scLoose : FnScope ["kept", "rows", "reader", "work"] ["kept", "rows", "reader"] (defScope sLoose) := ⟨rfl, rfl, rfl, by decide +kernel, rfl, by decide +kernel, by decide +kernel⟩
theorem c_loose_works (D : DefAt K mg "loose_works" sLoose ["kept", "rows", "reader"]) (B : Bi mg) (T : BkC P w K mg base C)   : C8.Cal P w K mg base 1 "loose_works" (sp_loose_works K C) [] := by
  refine calN D scLoose rfl fun f cdv A outer s H vs Q E S a hr fr ha hp q => ?_
  obtain ⟨kw, ws, r, _⟩ := a
  obtain ⟨w_kept, _, rfl, h_kept, w_rows, _, rfl, h_rows, w_reader, _, rfl, h_reader, e⟩ := ha
  cases (show _ = [] from e)
  have h_kept : ((kL (kT kI)) : Kd K C _).rp S H w_kept kw := h_kept
  have h_rows : ((kL (kT kI)) : Kd K C _).rp S H w_rows ws := h_rows
  have h_reader : (kI : Kd K C _).rp S H w_reader r := h_reader
  have n_kept := kL_len h_kept
  have n_rows := kL_len h_rows
  have q : ∀ p H', H p = none → Same H H' → ((kL kI) : Kd K C _).rp S H' (.ref p) (looseB kw ws r) → Q (.ref p) H' := q
  obtain ⟨⟨p1, p2⟩, p3⟩ : (0 ≤ r ∧ r < ws.length) ∧ kw.length = ws.length := hp
  refine ⟨_, (pss_one (ps_ret (pe_lc (own := [("work", 3)]) (g := (gName 3)) (tt := (tTest (tOp (rIn K true) (tVar 3) (tOp (rIxL K) (tVar 0) (tVar 2))))) (te := (tVar 3)) rfl scLoose.nd (pi_tup (pe_ix ix_list (pv 1) (pv 2) (fun _ _ => rfl))) (blkOk_by (own := [("work", 3)]) (N := ["kept", "rows", "reader", "work"]) (sc := defScope sLoose) (by decide +kernel)) (fun _ _ _ _ _ => (pg_name (i := 3) scLoose.nd rfl (.inl rfl))) (fun _ _ _ _ _ => pts_one (pt_cmpR op_notIn_seq (pv 3) (pe_ix ix_list (pv 0) (pv 2) (fun _ _ => rfl)) (by rfl))) (fun _ _ _ _ _ => (pv 3))))), ?_⟩
  try dsimp only [cxOf, Cx.nox, Cx.wish]
  exact s_retN (EvN.to (evn_lc fr (evi_tup (ev_ixL (ev_var rfl h_rows Lf.refl) (ev_var rfl h_reader Lf.refl) (by first | omega | (dsimp only; omega)))) (kWs_len h_rows _ (at_mem (by omega))) (fun y1 hy1 D1 v1 H1 l1 f1 hv1 => lcb_name rfl (evt_test (ev_nin (ev_var rfl hv1 Lf.refl) (ev_ixL (ev_var rfl h_kept l1) (ev_var rfl h_reader l1) (by first | omega | (dsimp only; omega))) IsSq.t)) (fun ht1 => (ev_var rfl hv1 Lf.refl)))) (List.map_id' _)) fun p H' n s' r => q p H' n s' r
end
end Ew
namespace Ew
open PySem PySem.Spec PyProof.Rows L2
abbrev Link := Int × Int × Option Int
def keysOf (c : List (Int × List Link)) : List Int := c.map (·.1)
def getC (c : List (Int × List Link)) (t : Int) : List Link := ((c.find? fun p => decide (p.1 = t)).map (·.2)).getD []
def givesB (r t : Int) : List Int → List (Int × List Link) × List Int → List (Int × List Link) × List Int
  | [], s => s
  | g :: gs, (c, w) => if g ∈ keysOf c then givesB r t gs (c, w) else givesB r t gs (c ++ [(g, getC c t ++ [(r, t, some g)])], w ++ [g])
def readB (b : Bk) (kw ws : List (List Int)) (t : Int) : List Int → List (Int × List Link) × List Int → List Link ⊕ (List (Int × List Link) × List Int)
  | [], s => .inr s
  | r :: rs, (c, w) => if freeB b ws r = true then .inl (getC c t ++ [(r, t, none)]) else readB b kw ws t rs (givesB r t (looseB kw ws r) (c, w))
def stepN (b : Bk) (kw ws : List (List Int)) (as : List Int) : Nat → List (Int × List Link) → List Int → List Link ⊕ List Int
  | 0, c, _ => .inr (srt (keysOf c))
  | _ + 1, c, [] => .inr (srt (keysOf c))
  | n + 1, c, t :: w => match readB b kw ws t (takersB b ws as t) (c, w) with
    | .inl ch => .inl ch
    | .inr (c', w') => stepN b kw ws as n c' w'
def stepB (b : Bk) (kw ws : List (List Int)) (as : List Int) (z : Int) : List Link ⊕ List Int := stepN b kw ws as 20 [(z, [])] [z]
structure SOk (n : Nat) (c : List (Int × List Link)) (w : List Int) : Prop where
  nd : (keysOf c).Nodup
  rg : ∀ g ∈ keysOf c, 0 ≤ g ∧ g < (n : Int)
  sub : ∀ g ∈ w, g ∈ keysOf c
  len : ∀ p ∈ c, p.2.length < c.length
theorem keys_snoc (c : List (Int × List Link)) (p : Int × List Link) : keysOf (c ++ [p]) = keysOf c ++ [p.1] := by
  unfold keysOf
  rw [List.map_append]
  rfl
theorem nd_one {a : Int} : ∀ {l : List Int}, l.Nodup → (∀ x ∈ l, x = a) → l.length ≤ 1
  | [], _, _ => Nat.zero_le _
  | [_], _, _ => Nat.le_refl _
  | x :: y :: l, nd, h => by
    have e : x = y := (h x (by simp)).trans (h y (by simp)).symm
    have := (List.nodup_cons.mp nd).1
    exact absurd (by rw [e]; simp) this
theorem nd_len : ∀ {n : Nat} {l : List Int}, l.Nodup → (∀ g ∈ l, 0 ≤ g ∧ g < (n : Int)) → l.length ≤ n
  | 0, [], _, _ => Nat.zero_le _
  | 0, x :: l, _, h => by have := h x (by simp); omega
  | n + 1, l, nd, h => by
    have h1 := split_len (fun x => decide (x = (n : Int))) l
    have h2 := nd_one (a := (n : Int)) (nd.filter fun x => decide (x = (n : Int))) fun x hx => by simpa using (List.mem_filter.mp hx).2
    have h3 := nd_len (n := n) (nd.filter fun x => !decide (x = (n : Int))) fun x hx => by
      have a := h x (List.mem_filter.mp hx).1
      have b : ¬ x = (n : Int) := by simpa using (List.mem_filter.mp hx).2
      omega
    omega
theorem SOk.le {n : Nat} {c w} (h : SOk n c w) : c.length ≤ n := by
  have := nd_len h.nd h.rg
  unfold keysOf at this
  rwa [List.length_map] at this
theorem getC_mem {c : List (Int × List Link)} {t : Int} (h : t ∈ keysOf c) : ∃ p ∈ c, p.1 = t ∧ p.2 = getC c t := by
  unfold keysOf at h
  obtain ⟨p, hp, e⟩ := List.mem_map.mp h
  cases q : c.find? fun p => decide (p.1 = t) with
  | none =>
    have := List.find?_eq_none.mp q p hp
    simp [e] at this
  | some p' =>
    have h1 := List.find?_some q
    have h2 := List.mem_of_find?_eq_some q
    refine ⟨p', h2, by simpa using h1, ?_⟩
    unfold getC
    rw [q]
    rfl
theorem getC_len {n : Nat} {c w} (h : SOk n c w) {t : Int} (ht : t ∈ keysOf c) : (getC c t).length < c.length := by
  obtain ⟨p, hp, _, e⟩ := getC_mem ht
  rw [← e]
  exact h.len p hp
theorem SOk.add {n : Nat} {c w} (h : SOk n c w) {r t g : Int} (ht : t ∈ keysOf c) (hg : 0 ≤ g ∧ g < (n : Int)) (hn : g ∉ keysOf c) : SOk n (c ++ [(g, getC c t ++ [(r, t, some g)])]) (w ++ [g]) := by
  have e := keys_snoc c (g, getC c t ++ [(r, t, some g)])
  refine ⟨?_, ?_, ?_, ?_⟩
  · rw [e]
    exact List.nodup_append.mpr ⟨h.nd, by simp, fun a ha b hb => by
      rw [List.mem_singleton.mp hb]
      exact fun z => hn (by rw [← show a = g from z]; exact ha)⟩
  · rw [e]
    intro x hx
    rcases List.mem_append.mp hx with hx | hx
    · exact h.rg x hx
    · rw [List.mem_singleton.mp hx]
      exact hg
  · rw [e]
    intro x hx
    rcases List.mem_append.mp hx with hx | hx
    · exact List.mem_append.mpr (.inl (h.sub x hx))
    · exact List.mem_append.mpr (.inr hx)
  · intro p hp
    rw [List.length_append, List.length_singleton]
    rcases List.mem_append.mp hp with hp | hp
    · have := h.len p hp
      omega
    · rw [List.mem_singleton.mp hp]
      have := getC_len h ht
      show (getC c t ++ [(r, t, some g)]).length < _
      rw [List.length_append, List.length_singleton]
      omega
/-- the measure -/
def mu (n : Nat) (c : List (Int × List Link)) (w : List Int) : Nat := (n - c.length) + w.length
theorem mu_add {n : Nat} {c w} (h : SOk n c w) {r t g : Int} (ht : t ∈ keysOf c) (hg : 0 ≤ g ∧ g < (n : Int)) (hn : g ∉ keysOf c) : mu n (c ++ [(g, getC c t ++ [(r, t, some g)])]) (w ++ [g]) = mu n c w := by
  have := (h.add (r := r) ht hg hn).le
  unfold mu
  rw [List.length_append, List.length_singleton] at *
  rw [List.length_append, List.length_singleton]
  omega
theorem gives_ok {n : Nat} {r t : Int} : ∀ {gs : List Int} {c w}, SOk n c w → t ∈ keysOf c → (∀ g ∈ gs, 0 ≤ g ∧ g < (n : Int)) → SOk n (givesB r t gs (c, w)).1 (givesB r t gs (c, w)).2 ∧ t ∈ keysOf (givesB r t gs (c, w)).1 ∧ mu n (givesB r t gs (c, w)).1 (givesB r t gs (c, w)).2 = mu n c w
  | [], _, _, h, ht, _ => ⟨h, ht, rfl⟩
  | g :: gs, c, w, h, ht, hg => by
    unfold givesB
    by_cases hm : g ∈ keysOf c
    · rw [if_pos hm]
      exact gives_ok h ht fun x hx => hg x (by simp [hx])
    · rw [if_neg hm]
      have hg1 := hg g (by simp)
      have := gives_ok (r := r) (gs := gs) (h.add (r := r) ht hg1 hm) (by rw [keys_snoc]; exact List.mem_append.mpr (.inl ht)) fun x hx => hg x (by simp [hx])
      rw [mu_add h ht hg1 hm] at this
      exact this
theorem loose_rg {n : Int} {kw ws : List (List Int)} {r : Int} (h : ∀ w ∈ ws, ∀ x ∈ w, 0 ≤ x ∧ x < n) (hr : 0 ≤ r ∧ r < ws.length) : ∀ g ∈ looseB kw ws r, 0 ≤ g ∧ g < n := fun g hg => h _ (at_mem hr) g (List.mem_filter.mp hg).1
theorem read_ok {n : Nat} {b : Bk} {kw ws : List (List Int)} {t : Int} (hw : ∀ w ∈ ws, ∀ x ∈ w, 0 ≤ x ∧ x < (n : Int)) : ∀ {rs : List Int} {c w c' w'}, SOk n c w → t ∈ keysOf c → (∀ r ∈ rs, 0 ≤ r ∧ r < ws.length) → readB b kw ws t rs (c, w) = .inr (c', w') → SOk n c' w' ∧ mu n c' w' = mu n c w
  | [], _, _, _, _, h, ht, _, e => by
    cases e
    exact ⟨h, rfl⟩
  | r :: rs, c, w, c', w', h, ht, hr, e => by
    unfold readB at e
    by_cases hf : freeB b ws r = true
    · rw [if_pos hf] at e
      cases e
    · rw [if_neg hf] at e
      obtain ⟨a1, a2, a3⟩ := gives_ok (r := r) h ht (loose_rg (kw := kw) hw (hr r (by simp)))
      have := read_ok hw (c := (givesB r t (looseB kw ws r) (c, w)).1) (w := (givesB r t (looseB kw ws r) (c, w)).2) a1 a2 (fun x hx => hr x (by simp [hx])) e
      rw [a3] at this
      exact this
section
variable {K : PySem.W.Frag} {C : Addr}
abbrev kLink : Kd K C Link := k3 kI kI (kO kI)
abbrev kLinks : Kd K C (List Link) := kL kLink
abbrev kStep : Kd K C (List Link ⊕ List Int) := kW "chain" "closed" kLinks (kT kI)
/-- the dict at d holds c -/
def DicAt (K : PySem.W.Frag) (C : Addr) (S : List Addr) (H : Hp) (d : Addr) (c : List (Int × List Link)) : Prop := ∃ kvs, H d = some (.dK kvs) ∧ Paired (fun (kv : Key × V) (p : Int × List Link) => kv.1 = .inl p.1 ∧ (kLinks (K := K) (C := C)).rp S H kv.2 p.2) kvs c
variable {S : List Addr} {H H' : Hp} {d q : Addr} {c : List (Int × List Link)} {w : List Int}
theorem DicAt.same (h : DicAt K C S H d c) (s : Same H H') : DicAt K C S H' d c := let ⟨kvs, e, p⟩ := h; ⟨kvs, s _ _ e, L2.Paired.mapP p fun _ _ z => ⟨z.1, kLinks.same s z.2⟩⟩
theorem DicAt.sx (h : DicAt K C S H d c) (f : Fr C S H) (s : Sx C S H H') (e : H' d = H d) : DicAt K C S H' d c := let ⟨kvs, e1, p⟩ := h; ⟨kvs, by rw [e, e1], L2.Paired.mapP p fun _ _ z => ⟨z.1, kLinks.sx f s z.2⟩⟩
theorem dic_val {R : Key × V → Int × List Link → Prop} (hR : ∀ kv p, R kv p → kv.1 = .inl p.1) {t : Int} : ∀ {kvs : List (Key × V)} {c : List (Int × List Link)}, Paired R kvs c → t ∈ keysOf c → ∃ v kv p, valV kvs (.inl t) = some v ∧ R kv p ∧ kv.2 = v ∧ p.2 = getC c t
  | _, _, .nil, h => nomatch h
  | kv :: kvs, p :: c, .cons r rest, h => by
    by_cases e : p.1 = t
    · refine ⟨kv.2, kv, p, valV_pos (by rw [hR _ _ r, e]), r, rfl, ?_⟩
      unfold getC
      rw [List.find?_cons, show decide (p.1 = t) = true by simp [e]]
      rfl
    · have h' : t ∈ keysOf c := by
        unfold keysOf at *
        rw [List.map_cons] at h
        rcases List.mem_cons.mp h with h | h
        · exact absurd h.symm e
        · exact h
      obtain ⟨v, kv', p', e1, e2, e3, e4⟩ := dic_val hR rest h'
      refine ⟨v, kv', p', ?_, e2, e3, ?_⟩
      · rw [valV_neg (by rw [hR _ _ r]; intro z; cases z; exact e rfl)]
        exact e1
      · rw [e4]
        unfold getC
        rw [List.find?_cons, show decide (p.1 = t) = false by simp [e]]
theorem dic_keys {R : Key × V → Int × List Link → Prop} (hR : ∀ kv p, R kv p → kv.1 = .inl p.1) : ∀ {kvs : List (Key × V)} {c : List (Int × List Link)}, Paired R kvs c → kvs.map (·.1) = (keysOf c).map Sum.inl
  | _, _, .nil => rfl
  | kv :: kvs, p :: c, .cons r rest => by
    have ih := dic_keys hR rest
    unfold keysOf at *
    rw [List.map_cons, List.map_cons, List.map_cons, ih, hR _ _ r]
theorem dic_not {R : Key × V → Int × List Link → Prop} (hR : ∀ kv p, R kv p → kv.1 = .inl p.1) {t : Int} : ∀ {kvs : List (Key × V)} {c : List (Int × List Link)}, Paired R kvs c → t ∉ keysOf c → valV kvs (.inl t) = none
  | _, _, .nil, _ => rfl
  | kv :: kvs, p :: c, .cons r rest, h => by
    have h1 : ¬ p.1 = t := fun e => h (by unfold keysOf; simp [e])
    have h2 : t ∉ keysOf c := fun m => h (by unfold keysOf at *; simp only [List.map_cons, List.mem_cons]; exact .inr m)
    rw [valV_neg (by rw [hR _ _ r]; intro z; cases z; exact h1 rfl)]
    exact dic_not hR rest h2
theorem DicAt.get (h : DicAt K C S H d c) {t : Int} (ht : t ∈ keysOf c) : ∃ v, DGet H d (.int t) (some v) ∧ (kLinks (K := K) (C := C)).rp S H v (getC c t) := by
  obtain ⟨kvs, e, p⟩ := h
  obtain ⟨v, kv, pp, e1, e2, e3, e4⟩ := dic_val (fun _ _ z => z.1) p ht
  refine ⟨v, ?_, by rw [← e3, ← e4]; exact e2.2⟩
  rw [← e1]
  exact DGet.k (k := .inl t) e
theorem DicAt.has (h : DicAt K C S H d c) (t : Int) : ∃ o, DGet H d (.int t) o ∧ o.isSome = decide (t ∈ keysOf c) := by
  obtain ⟨kvs, e, p⟩ := h
  refine ⟨_, DGet.k (k := .inl t) e, ?_⟩
  by_cases ht : t ∈ keysOf c
  · obtain ⟨v, _, _, e1, _⟩ := dic_val (fun _ _ z => z.1) p ht
    rw [e1]
    simp [ht]
  · rw [dic_not (fun _ _ z => z.1) p ht]
    simp [ht]
theorem DicAt.put (h : DicAt K C S H d c) (f : Fr C S H) (hd : d ∈ S) {g : Int} {v : V} {l : List Link} (hn : g ∉ keysOf c) (hv : (kLinks (K := K) (C := C)).rp S H v l) (hl : c.length < 1000000) : ∃ o, DPut H d (.int g) v (upd H d (.dK o)) ∧ DicAt K C S (upd H d (.dK o)) d (c ++ [(g, l)]) := by
  obtain ⟨kvs, e, p⟩ := h
  have e2 := putK_new (k := Sum.inl g) v (dic_not (fun _ _ z => z.1) p hn)
  have sx : Sx C S H (upd H d (.dK (putK kvs (.inl g) v))) := sx_upd f hd trivial
  refine ⟨putK kvs (.inl g) v, DPut.k (k := .inl g) e (szl (by rw [pLen p]; omega)), _, upd_same, ?_⟩
  rw [e2] at *
  exact Paired.app (L2.Paired.mapP p fun _ _ z => ⟨z.1, kLinks.sx f sx z.2⟩) (.cons ⟨rfl, kLinks.sx f sx hv⟩ .nil)
/-- d[t], t a slot's int -/
theorem ev_dic {σ : L2.St} {i j : Nat} {t : Int} (h : DicAt K C S H d c) (ht : t ∈ keysOf c) (e1 : σ[i]? = some (some (.ref d))) (e2 : σ[j]? = some (some (.int t))) : Ev (kLinks (K := K) (C := C)) S H (tDGet (tVar i) (tVar j)) σ (getC c t) := fun H1 s Q q => by
  obtain ⟨v, g, r⟩ := (h.same s).get ht
  exact ⟨_, e1, _, e2, d, v, rfl, g, q v H1 (Same.refl _) r⟩
end
end Ew
namespace Ew
open PySem PySem.Spec PyProof.Rows L2
abbrev sStep : Stmt := (top 13)
/-- rows of the book: as many as readers, of its works -/
structure RowsIn (b : Bk) (ws : List (List Int)) : Prop where
  len : ws.length = b.rs.length
  rg : ∀ w ∈ ws, ∀ x ∈ w, 0 ≤ x ∧ x < (b.ds.length : Int)
def sp_step (K : PySem.W.Frag) (C : Addr) : Sp := fun vs H Q _ => ∃ S a, Fr C S H ∧ (aC kBk (aC kWs (aC kWs (aC (kT kI) (aC kI aN)))) : Ka K C (Bk × List (List Int) × List (List Int) × List Int × Int × Unit)).rps S H vs a ∧ (RowsIn a.1 a.2.2.1 ∧ a.2.1.length = a.2.2.1.length ∧ 0 ≤ a.2.2.2.2.1 ∧ a.2.2.2.2.1 < a.1.ds.length) ∧
  ∀ v H', Same H H' → (kStep (K := K) (C := C)).rp S H' v (stepB a.1 a.2.1 a.2.2.1 a.2.2.2.1 a.2.2.2.2.1) → (∀ ch, stepB a.1 a.2.1 a.2.2.1 a.2.2.2.1 a.2.2.2.2.1 = .inl ch → ∃ t p, v = .ref t ∧ H' t = some (.tup [.str "chain", .ref p]) ∧ H p = none ∧ (kLinks (K := K) (C := C)).rp S H' (.ref p) ch) → Q v H'
section
variable {P : Program} {w : World} {K : PySem.W.Frag} {mg : Str → Option Value} {base : Heap} {C : Addr}
theorem scStep : FnScope ["book", "kept", "rows", "absent", "work", "chains", "waiting", "takes", "reader", "gives"] ["book", "kept", "rows", "absent", "work"] (defScope sStep) := ⟨rfl, rfl, rfl, by decide +kernel, rfl, by decide +kernel, by decide +kernel⟩
theorem c_step (D : DefAt K mg "step" sStep ["book", "kept", "rows", "absent", "work"]) (B : Bi mg) (T : BkC P w K mg base C) (c_takers : C8.Cal P w K mg base 3 "takers" (sp_takers K C) []) (c_is_free : C8.Cal P w K mg base 2 "is_free" (sp_is_free K C) []) (c_loose_works : C8.Cal P w K mg base 1 "loose_works" (sp_loose_works K C) []) :
    C8.Cal P w K mg base 4 "step" (sp_step K C) [] := by
  refine cal_of D scStep (fun vs H Q E h => ?_) fun f cdv A outer s H vs Q E hr h => ?_
  · obtain ⟨S, a, _, h, _⟩ := h
    rw [Ka.len _ h]
    rfl
  obtain ⟨S, ⟨b, kw, ws, as, z, _⟩, fr, h, ⟨rin, hkl, z0, z1⟩, q⟩ := h
  obtain ⟨wb, _, rfl, hb, wk, _, rfl, hk, wr, _, rfl, hw, wa, _, rfl, ha, wz, _, rfl, hz, e⟩ := h
  cases (show _ = [] from e)
  have hb : (kBk : Kd K C _).rp S H wb b := hb
  have hk : (kWs : Kd K C _).rp S H wk kw := hk
  have hw : (kWs : Kd K C _).rp S H wr ws := hw
  have ha : (kT kI : Kd K C _).rp S H wa as := ha
  have hz : (kI : Kd K C _).rp S H wz z := hz
  cases (show wz = .int z from hz)
  have rin : RowsIn b ws := rin
  have hkl : kw.length = ws.length := hkl
  have z0 : 0 ≤ z := z0
  have z1 : z < b.ds.length := z1
  have q : ∀ v H', Same H H' → (kStep (K := K) (C := C)).rp S H' v (stepB b kw ws as z) → (∀ ch, stepB b kw ws as z = .inl ch → ∃ t p, v = .ref t ∧ H' t = some (.tup [.str "chain", .ref p]) ∧ H p = none ∧ (kLinks (K := K) (C := C)).rp S H' (.ref p) ch) → Q v H' := q
  have ok := kBk.ok hb
  have n6 := ok.n6
  have r6 := ok.r6
  have hu := hu_of hr
  refine ⟨_, pss_cons (ps_set (i := 5) scStep.nd rfl (.inl rfl) (pe_disp (pps_cons (pv 4) (pe_lst pa_nil) pps_nil) (by rfl) (by rfl) (fun z => by cases z) (by decide)))
    (pss_cons (ps_set (i := 6) scStep.nd rfl (.inl rfl) (pe_lst (pa_cons (pv 4) pa_nil)))
    (pss_cons (ps_while PassesOwn.never (pt_cmpR op_gt (pe_callB call_len_seq (by rfl) B.len PySem.boot_len (pa_cons (pv 6) pa_nil)) pe_int (nomark _))
      (pss_cons (ps_set (i := 7) scStep.nd rfl (.inl rfl) (pe_bm PySem.F.plainAttrs_list PySem.F.slot_list_pop PySem.F.type_list_pop mt_popAt (pv 6) (pa_cons pe_int pa_nil)))
      (pss_one (ps_for PassesOwn.never rfl (pi_list (C8.pe_c c_takers hr (by decide) (by rfl) (pa_cons (pv 0) (pa_cons (pv 2) (pa_cons (pv 3) (pa_cons (pv 7) pa_nil)))))) (pg_name (i := 8) scStep.nd rfl (.inl rfl))
        (pss_cons (ps_if (pt_val (C8.pe_c c_is_free hr (by decide) (by rfl) (pa_cons (pv 0) (pa_cons (pv 2) (pa_cons (pv 8) pa_nil)))))
          (pss_one (ps_ret (pe_tup (pa_cons pe_str (pa_cons (pe_op op_cat (pe_dget hu (pv 5) (pv 7) (fun _ _ => rfl)) (pe_lst (pa_cons (pe_tup (pa_cons (pv 8) (pa_cons (pv 7) (pa_cons pe_non pa_nil)))) pa_nil))) pa_nil))))) pss_nil)
        (pss_one (ps_for PassesOwn.never rfl (pi_list (C8.pe_c c_loose_works hr (by decide) (by rfl) (pa_cons (pv 1) (pa_cons (pv 2) (pa_cons (pv 8) pa_nil))))) (pg_name (i := 9) scStep.nd rfl (.inl rfl))
          (pss_one (ps_if (pt_cmp (pc_dnotin hu (pv 9) (pv 5)))
            (pss_cons (ps_dput hu (pv 5) (pv 9) (pe_op op_cat (pe_dget hu (pv 5) (pv 7) (fun _ _ => rfl)) (pe_lst (pa_cons (pe_tup (pa_cons (pv 8) (pa_cons (pv 7) (pa_cons (pv 9) pa_nil)))) pa_nil))) rfl)
            (pss_one (ps_expr (pe_bm PySem.F.plainAttrs_list PySem.F.slot_list_append PySem.F.type_list_append mt_append (pv 6) (pa_cons (pv 9) pa_nil))))) pss_nil)))))))))
    (pss_one (ps_ret (pe_tup (pa_cons pe_str (pa_cons (pe_callTy call_tuple_of (by rfl) B.tuple (by decide +kernel) (pa_cons (pe_callB (call_sortedDI rfl) (by rfl) B.sorted (by decide +kernel) (pa_cons (pv 5) pa_nil)) pa_nil)) pa_nil))))))), ?_⟩
  dsimp only [cxOf, Cx.nox, Cx.wish]
  -- chains, waiting
  refine fun d nd => ⟨_, rfl, Nat.zero_le _, fun l0 nl0 => ⟨?_, ?_⟩⟩
  · have : d ≠ l0 := fun e => by rw [← e, upd_same] at nl0; cases nl0
    rw [upd_ne this]
    exact upd_same
  refine ⟨[(.inl z, .ref l0)], rfl, by simp, ⟨_, rfl, szL (by simp), fun p np => ?_⟩⟩
  -- what stands
  have f1 : Fr C (d :: S) (upd H d (.dK [])) := fr.cons nd trivial
  have hl0 : H l0 = none := (sameU nd).free nl0
  have dl0 : l0 ≠ d := fun e => by rw [e, upd_same] at nl0; cases nl0
  have f2 := f1.same (sameU (o := .lst []) nl0)
  have r0 : (kLinks (K := K) (C := C)).rp (d :: S) (upd (upd H d (.dK [])) l0 (.lst [])) (.ref l0) [] := ⟨l0, [], rfl, f1.out nl0, upd_same, .nil, Nat.zero_le _⟩
  have sx3 : Sx C (d :: S) (upd (upd H d (.dK [])) l0 (.lst [])) (upd (upd (upd H d (.dK [])) l0 (.lst [])) d (.dK (mergeK [] [(.inl z, .ref l0)]))) := sx_upd f2 (by simp) trivial
  have r3 := kLinks.sx f2 sx3 r0
  have f3 := sx3.fr
  have s3 : Same H (upd (upd (upd H d (.dK [])) l0 (.lst [])) d (.dK (mergeK [] [(.inl z, .ref l0)]))) := sameOwn ((sameU nd).trans (sameU nl0)) nd (.dK (xs := []) (by rw [upd_ne dl0.symm, upd_same]))
  have hd3 : (upd (upd (upd H d (.dK [])) l0 (.lst [])) d (.dK (mergeK [] [(.inl z, .ref l0)]))) d = some (.dK [(.inl z, .ref l0)]) := upd_same
  generalize (upd (upd (upd H d (.dK [])) l0 (.lst [])) d (.dK (mergeK [] [(.inl z, .ref l0)]))) = H3 at *
  have np0 : H p = none := s3.free np
  have dp : d ≠ p := ne_of_none hd3 np
  have f4 : Fr C (p :: d :: S) (upd H3 p (.lst [.int z])) := f3.cons np trivial
  have s4 : Same H (upd H3 p (.lst [.int z])) := s3.trans (sameU np)
  have dic0 : DicAt K C (p :: d :: S) (upd H3 p (.lst [.int z])) d [(z, [])] := ⟨_, sameU np _ _ hd3, .cons ⟨rfl, kLinks.same (sameU np) (kLinks.new np r3)⟩ .nil⟩
  have hq0 : (upd H3 p (.lst [.int z])) p = some (.lst ([z].map V.int)) := upd_same
  generalize (upd H3 p (.lst [.int z])) = H4 at *
  have lf : ∀ Hc, Same H Hc → Lf K C S H (p :: d :: S) Hc := fun Hc s => ⟨fun k v x h => k.same s (k.new np0 (k.new nd h)), s.tab⟩
  have sok0 : SOk b.ds.length [(z, [])] [z] := ⟨by simp [keysOf], fun g hg => by simp [keysOf] at hg; omega, fun g hg => by simpa [keysOf] using hg, fun q hq => by simp at hq; rw [hq]; simp⟩
  clear sx3 r0 f1 f2 f3 r3 hd3
  refine ⟨fun m σ Hc => ∃ y7 y8 y9 c w, σ = [some wb, some wk, some wr, some wa, some (.int z), some (.ref d), some (.ref p), y7, y8, y9] ∧ Same H Hc ∧ Fr C (p :: d :: S) Hc ∧ DicAt K C (p :: d :: S) Hc d c ∧ Hc p = some (.lst (w.map V.int)) ∧ SOk b.ds.length c w ∧ mu b.ds.length c w < m ∧ m ≤ 20 ∧ stepB b kw ws as z = stepN b kw ws as m c w,
    ⟨20, none, none, none, _, _, rfl, s4, f4, dic0, hq0, sok0, by unfold mu; simp; omega, Nat.le_refl _, rfl⟩, ?_⟩
  rintro m σ Hc ⟨y7, y8, y9, c, w, rfl, sc, fc, dic, hq, sok, hmu, hm20, hst⟩
  refine ⟨_, rfl, p, _, rfl, .inl (.inl (.inl hq)), _, _, rfl, rfl, _, rfl, ?_⟩
  cases w with
  | nil =>
    refine iteFd (by simp) ?_
    have hst2 : stepB b kw ws as z = .inr (srt (keysOf c)) := by
      rw [hst]
      cases m <;> rfl
    obtain ⟨kvs, hd, hp⟩ := id dic
    have hkeys := dic_keys (fun _ _ z => z.1) hp
    have hle := sok.le
    have hk64 : (keysOf c).length < 64 := by unfold keysOf; rw [List.length_map]; omega
    refine ⟨_, rfl, d, kvs, keysOf c, rfl, .inl hd, hkeys, hk64, fun ys p5 hp5 hu5 np5 => ?_⟩
    rw [srt_of hp5 hu5]
    refine ⟨p5, _, rfl, .inl ⟨.inl (.inl upd_same), fun t1 nt1 => ⟨szL (by simp), fun t2 nt2 => ?_⟩⟩⟩
    have s5 : Same H (upd (upd (upd Hc p5 (.lst ((srt (keysOf c)).map V.int))) t1 (.tup ((srt (keysOf c)).map V.int))) t2 (.tup [.str "closed", .ref t1])) := sc.trans ((sameU np5).trans ((sameU nt1).trans (sameU nt2)))
    refine q _ _ s5 ?_ fun ch e => ?_
    · rw [hst2]
      exact ⟨t2, .ref t1, rfl, .inl (.inl upd_same), t1, _, rfl, .inl (.inl (sameU nt2 _ _ upd_same)), paired_ints _, by rw [srt_len]; omega⟩
    · rw [hst2] at e
      cases e
  | cons t w =>
    refine iteTd (by simp) ?_
    obtain ⟨m, rfl⟩ : ∃ m', m = m' + 1 := ⟨m - 1, by omega⟩
    refine ⟨_, fun σ' H' h => ⟨m, Nat.lt_succ_self m, h⟩, ?_⟩
    have tk : t ∈ keysOf c := sok.sub t (by simp)
    refine ⟨_, rfl, .inl ⟨rfl, _, .inl (.inl hq)⟩, p, _, 0, 0, .int t, rfl, rfl, hq, by decide, by decide, by unfold seqIndex?; simp, rfl, ?_⟩
    have sxp : Sx C (p :: d :: S) Hc (upd Hc p (.lst (((t :: w).map V.int).eraseIdx 0))) := sx_upd fc (by simp) trivial
    have sc5 : Same H (upd Hc p (.lst (((t :: w).map V.int).eraseIdx 0))) := sameOwn sc np0
    have hq5 : (upd Hc p (.lst (((t :: w).map V.int).eraseIdx 0))) p = some (.lst (w.map V.int)) := upd_same
    have dic5 : DicAt K C (p :: d :: S) (upd Hc p (.lst (((t :: w).map V.int).eraseIdx 0))) d c := dic.sx fc sxp (by rw [upd_ne dp])
    have f5 := sxp.fr
    generalize (upd Hc p (.lst (((t :: w).map V.int).eraseIdx 0))) = H5 at *
    have sok5 : SOk b.ds.length c w := ⟨sok.nd, sok.rg, fun g hg => sok.sub g (by simp [hg]), sok.len⟩
    have hmu5 : mu b.ds.length c w < m := by unfold mu at *; rw [List.length_cons] at hmu; omega
    have hst5 : stepB b kw ws as z = match readB b kw ws t (takersB b ws as t) (c, w) with
        | .inl ch => .inl ch
        | .inr (c', w') => stepN b kw ws as m c' w' := hst
    clear hst hmu sok sxp dic hq fc
    have l5 := lf H5 sc5
    refine s_for (kx := kI) (S := p :: d :: S) (evi_list (EvN.ev (evn_call (eva_cons (ev_var rfl hb l5) (eva_cons (ev_var rfl hw l5) (eva_cons (ev_var rfl ha l5) (eva_cons (ev_var (k := kI) (x := t) rfl rfl Lf.refl) eva_nil)))) f5 rin.len))) fun H6 s6 => ?_
    dsimp only
    have tmem : ∀ r ∈ takersB b ws as t, r ∈ presB b as := fun r hr => (List.mem_filter.mp hr).1
    have tlen : (takersB b ws as t).length ≤ 6 := Nat.le_trans (List.length_filter_le _ _) (Nat.le_trans (presB_len b as) r6)
    generalize takersB b ws as t = tks at *
    refine ⟨fun i σ' H' => ∃ y8 y9 c' w', σ' = [some wb, some wk, some wr, some wa, some (.int z), some (.ref d), some (.ref p), some (.int t), y8, y9] ∧ Same H H' ∧ Fr C (p :: d :: S) H' ∧ DicAt K C (p :: d :: S) H' d c' ∧ H' p = some (.lst (w'.map V.int)) ∧ Lf K C (p :: d :: S) H6 (p :: d :: S) H' ∧ SOk b.ds.length c' w' ∧ mu b.ds.length c' w' = mu b.ds.length c w ∧ t ∈ keysOf c' ∧
      readB b kw ws t tks (c, w) = readB b kw ws t (tks.drop i) (c', w'),
      ⟨y8, y9, c, w, rfl, sc5.trans s6, f5.same s6, dic5.same s6, s6 _ _ hq5, Lf.refl, sok5, rfl, tk, rfl⟩, fun i σ' H' h => let ⟨_, _, _, _, _, _, _, _, _, l, _⟩ := h; l, ?_, ?_⟩
    · rintro i r σ' H' v H'' hx ⟨y8, y9, c', w', rfl, sc', f', dic', hq', l6, sok', hmu', tk', hrd⟩ s7 hv
      cases (show v = .int r from hv)
      have sc7 := sc'.trans s7
      have f7 := f'.same s7
      have dic7 := dic'.same s7
      have hq7 := s7 _ _ hq'
      have l67 : Lf K C (p :: d :: S) H6 (p :: d :: S) H'' := l6.trans (.same s7)
      clear dic' hq' f' sc' l6
      have l7 := lf H'' sc7
      have ir : IsRd b ws r := IsRd.of rin.len (tmem r (List.mem_of_getElem? hx))
      have hdrop : tks.drop i = r :: tks.drop (i + 1) := by
        have hi : i < tks.length := by
          rcases Nat.lt_or_ge i tks.length with h | h
          · exact h
          · rw [List.getElem?_eq_none h] at hx; cases hx
        rw [List.drop_eq_getElem_cons hi]
        rw [List.getElem?_eq_getElem hi] at hx
        cases hx
        rfl
      rw [hdrop] at hrd
      have gl := getC_len sok' tk'
      have cl := sok'.le
      refine q_if (evt_b (ev_call (eva_cons (ev_var rfl hb l7) (eva_cons (ev_var rfl hw l7) (eva_cons (ev_var (k := kI) (x := r) rfl rfl Lf.refl) eva_nil))) f7 ir)) (fun H8 hfree s8 => ?_) fun H8 hfree s8 => ?_
      · -- a chain
        have hfree : freeB b ws r = true := hfree
        have hres : stepB b kw ws as z = .inl (getC c' t ++ [(r, t, none)]) := by
          rw [hst5, hrd]
          unfold readB
          rw [if_pos hfree]
        have f8 := f7.same s8
        refine EvN.use (S := p :: d :: S) (evn_catL (ev_dic (dic7.same s8) tk' rfl rfl) (EvN.ev (evn_l1 (ev_t3 (ev_var (k := kI) (x := r) rfl rfl Lf.refl) (ev_var (k := kI) (x := t) rfl rfl Lf.refl) (ev_none (k := kI))) f8)) f8 (by simp; omega)) fun p1 H9 n1 s9 r1 => ⟨szL (by simp), fun t1 nt1 => ?_⟩
        have sT := sc7.trans (s8.trans (s9.trans (sameU (o := .tup [.str "chain", .ref p1]) nt1)))
        have r1' := kLinks.less (T := S) (fun a m => by simp [m]) (kLinks.same (sameU (o := .tup [.str "chain", .ref p1]) nt1) r1)
        refine q _ _ sT ?_ fun ch e => ?_
        · rw [hres]
          exact ⟨t1, .ref p1, rfl, .inl (.inl upd_same), r1'⟩
        · rw [hres] at e
          cases e
          exact ⟨t1, p1, rfl, upd_same, (sc7.trans s8).free n1, r1'⟩
      · -- its loose works
        have hfree : ¬ freeB b ws r = true := by
          have h : freeB b ws r = false := hfree
          rw [h]
          exact Bool.false_ne_true
        have sc8 := sc7.trans s8
        have f8 := f7.same s8
        have dic8 := dic7.same s8
        have hq8 := s8 _ _ hq7
        have l68 : Lf K C (p :: d :: S) H6 (p :: d :: S) H8 := l67.trans (.same s8)
        have l8 := lf H8 sc8
        clear dic7 hq7 f7 sc7 l67 l7 s8 s7
        have hgs : ∀ g ∈ looseB kw ws r, 0 ≤ g ∧ g < (b.ds.length : Int) := loose_rg rin.rg ir.1
        have hnext : readB b kw ws t (r :: tks.drop (i + 1)) (c', w') = readB b kw ws t (tks.drop (i + 1)) (givesB r t (looseB kw ws r) (c', w')) := by
          rw [readB, if_neg hfree]
        rw [hnext] at hrd
        refine s_for (kx := kI) (S := p :: d :: S) (evi_list (EvN.ev (evn_call (eva_cons (ev_var rfl hk l8) (eva_cons (ev_var rfl hw l8) (eva_cons (ev_var (k := kI) (x := r) rfl rfl Lf.refl) eva_nil))) f8 ⟨ir.1, hkl⟩))) fun H9 s9 => ?_
        dsimp only
        generalize looseB kw ws r = gs at *
        refine ⟨fun j σ' H' => ∃ y9 c2 w2, σ' = [some wb, some wk, some wr, some wa, some (.int z), some (.ref d), some (.ref p), some (.int t), some (.int r), y9] ∧ Same H H' ∧ Fr C (p :: d :: S) H' ∧ DicAt K C (p :: d :: S) H' d c2 ∧ H' p = some (.lst (w2.map V.int)) ∧ Lf K C (p :: d :: S) H6 (p :: d :: S) H' ∧ Lf K C (p :: d :: S) H9 (p :: d :: S) H' ∧ SOk b.ds.length c2 w2 ∧ mu b.ds.length c2 w2 = mu b.ds.length c w ∧ t ∈ keysOf c2 ∧
          givesB r t gs (c', w') = givesB r t (gs.drop j) (c2, w2),
          ⟨y9, c', w', rfl, sc8.trans s9, f8.same s9, dic8.same s9, s9 _ _ hq8, l68.trans (.same s9), Lf.refl, sok', hmu', tk', rfl⟩, fun i σ' H' h => let ⟨_, _, _, _, _, _, _, _, _, l, _⟩ := h; l, ?_, ?_⟩
        · rintro j g σ' H' v H'' hx ⟨y9, c2, w2, rfl, sc2, f2, dic2, hq2, l62, l92, sok2, hmu2, tk2, hgv⟩ s10 hv
          cases (show v = .int g from hv)
          have sc3 := sc2.trans s10
          have f3 := f2.same s10
          have dic3 := dic2.same s10
          have hq3 := s10 _ _ hq2
          have l63 := l62.trans (Lf.same s10)
          have l93 := l92.trans (Lf.same s10)
          clear dic2 hq2 f2 sc2 l62 l92
          have hdrop : gs.drop j = g :: gs.drop (j + 1) := by
            have hi : j < gs.length := by
              rcases Nat.lt_or_ge j gs.length with h | h
              · exact h
              · rw [List.getElem?_eq_none h] at hx; cases hx
            rw [List.drop_eq_getElem_cons hi]
            rw [List.getElem?_eq_getElem hi] at hx
            cases hx
            rfl
          rw [hdrop, givesB] at hgv
          obtain ⟨o, hget, ho⟩ := dic3.has g
          refine ⟨_, rfl, _, rfl, d, o, rfl, hget, _, rfl, ?_⟩
          rw [ho]
          by_cases hm : g ∈ keysOf c2
          · rw [if_pos hm] at hgv
            refine iteFd (by simp [hm]) ?_
            exact ⟨_, c2, w2, rfl, sc3, f3, dic3, hq3, l63, l93, sok2, hmu2, tk2, hgv⟩
          · rw [if_neg hm] at hgv
            refine iteTd (by simp [hm]) ?_
            have hg1 := hgs g (List.mem_of_getElem? hx)
            have gl2 := getC_len sok2 tk2
            have cl2 := sok2.le
            have sok3 := sok2.add (r := r) tk2 hg1 hm
            have wl : w2.length ≤ c2.length + b.ds.length + mu b.ds.length c w := by
              rw [← hmu2]
              unfold mu
              omega
            refine EvN.use (S := p :: d :: S) (evn_catL (ev_dic dic3 tk2 rfl rfl) (EvN.ev (evn_l1 (ev_t3 (ev_var (k := kI) (x := r) rfl rfl Lf.refl) (ev_var (k := kI) (x := t) rfl rfl Lf.refl) (ev_some (ev_var (k := kI) (x := g) rfl rfl Lf.refl))) f3)) f3 (by simp; omega)) fun p1 H4 n1 s4 r1 => ?_
            obtain ⟨o2, hput, dic4⟩ := (dic3.same s4).put (f3.same s4) (by simp) hm r1 (by omega)
            refine ⟨_, rfl, _, rfl, d, _, rfl, hput, ?_⟩
            have f4 := f3.same s4
            have sx4 : Sx C (p :: d :: S) H4 (upd H4 d (.dK o2)) := sx_upd f4 (by simp) trivial
            have hq4 : (upd H4 d (.dK o2)) p = some (.lst (w2.map V.int)) := by rw [upd_ne (Ne.symm dp)]; exact s4 _ _ hq3
            have sc4 : Same H (upd H4 d (.dK o2)) := sameOwn (sc3.trans s4) nd (.dK (dic3.same s4).choose_spec.1)
            have ll4 : Lf K C (p :: d :: S) H'' (p :: d :: S) (upd H4 d (.dK o2)) := (Lf.same s4).trans (.sx f4 sx4)
            have f44 := sx4.fr
            generalize (upd H4 d (.dK o2)) = H44 at *
            have sx5 : Sx C (p :: d :: S) H44 (upd H44 p (.lst (w2.map V.int ++ [.int g]))) := sx_upd f44 (by simp) trivial
            refine ⟨_, rfl, .inl ⟨rfl, _, .inl (.inl hq4)⟩, _, rfl, p, _, .int g, rfl, rfl, hq4, ?_, ?_⟩
            · rw [List.length_map]
              have : mu b.ds.length c w ≤ 1000 := by
                omega
              exact szl (by omega)
            · refine ⟨_, _, _, rfl, sameOwn sc4 np0, sx5.fr, dic4.sx f44 sx5 (by rw [upd_ne dp]), ?_, l63.trans (ll4.trans (.sx f44 sx5)), l93.trans (ll4.trans (.sx f44 sx5)), sok3, by rw [mu_add sok2 tk2 hg1 hm]; exact hmu2, by rw [keys_snoc]; exact List.mem_append.mpr (.inl tk2), hgv⟩
              rw [upd_same, List.map_append]
              rfl
        · rintro σ' H' ⟨y9, c2, w2, rfl, sc2, f2, dic2, hq2, l62, l92, sok2, hmu2, tk2, hgv⟩
          rw [List.drop_length] at hgv
          refine ⟨_, _, c2, w2, rfl, sc2, f2, dic2, hq2, l62, sok2, hmu2, tk2, ?_⟩
          rw [hrd, hgv]
          rfl
    · rintro σ' H' ⟨y8, y9, c', w', rfl, sc', f', dic', hq', l6, sok', hmu', tk', hrd⟩
      rw [List.drop_length] at hrd
      refine ⟨_, y8, y9, c', w', rfl, sc', f', dic', hq', sok', by omega, by omega, ?_⟩
      rw [hst5, hrd]
      rfl
end
end Ew
namespace Ew
open PySem PySem.Spec PyProof.Rows L2
section
variable {K : PySem.W.Frag} {C : Addr} {α β γ δ : Type} {k : Kd K C α} {k1 : Kd K C β} {k2 : Kd K C γ} {k3' : Kd K C δ} {S : List Addr} {H : Hp} {σ : L2.St} {te ta tb : TE} {x : α}
theorem bt_kI : ∀ (S : List Addr) (H : Hp) (v : V) (x : Int), (kI (K := K) (C := C)).rp S H v x → Bt K H v "int" := fun S H v x h => by
  cases (show v = .int x from h)
  exact .base (.int x)
theorem bt_kT : ∀ (S : List Addr) (H : Hp) (v : V) (x : List α), (kT k).rp S H v x → Bt K H v "tuple" := fun S H v x h => by
  obtain ⟨a, vs, rfl, h, _⟩ := h
  exact bt_tup h
theorem ev_isi {T0 T : String} {b : Bool} (h : Ev k S H te σ x) (ht : ∀ (S : List Addr) (H : Hp) (v : V) (x : α), k.rp S H v x → Bt K H v T0) (hb : PySem.W.kitOne K (.type T0) (.type T) = some b) : Ev (K := K) (C := C) kB S H (tCB (rIsi K) (tCons te (tCons (tC (.ty T)) tNil))) σ b := fun H1 s Q q =>
  h H1 s _ fun v H2 s2 r => ⟨v, .ty T, _, _, b, rfl, .ty _, ht _ _ _ _ r, hb, q _ H2 s2 rfl⟩
theorem ev_isInt {i : Int} (h : Ev (K := K) (C := C) kI S H te σ i) : Ev (K := K) (C := C) kB S H (tCall (spIsInt K) [] C8.E0 (tCons te tNil)) σ true := fun H1 s Q q =>
  h H1 s _ fun v H2 s2 r => by
    cases (show v = .int i from r)
    exact ⟨_, "int", rfl, .base (.int i), q _ H2 s2 rfl⟩
theorem ascV_map {n : Int} : ∀ (l : List Int) (lo : Int), ascV n lo (l.map V.int) = ascI n lo l
  | [], _ => rfl
  | i :: l, lo => by
    show (decide (lo < i) && decide (i < n) && ascV n i (l.map V.int)) = (decide (lo < i) && decide (i < n) && ascI n i l)
    rw [ascV_map l i]
theorem ev_isAsc {l : List Int} {n : Int} (h : Ev (K := K) (C := C) (kT kI) S H ta σ l) (g : Ev (K := K) (C := C) kI S H tb σ n) : Ev (K := K) (C := C) kB S H (tCall (spIsAsc K) [] C8.E0 (tCons ta (tCons tb tNil))) σ (ascI n (-1) l) := fun H1 s Q q =>
  (eva_cons h (eva_cons g eva_nil)) H1 s _ fun vs H2 s2 rv => by
    obtain ⟨v1, r1, rfl, h1, v2, r2, e, h2, e2⟩ := rv
    cases (show r1 = _ from e)
    cases (show r2 = [] from e2)
    cases (show v2 = .int n from h2)
    obtain ⟨t, rfl, h1, _⟩ := kT_ints h1
    refine ⟨_, n, rfl, .inr ⟨t, _, rfl, h1, fun y hy => ?_, ?_⟩⟩
    · obtain ⟨i, _, rfl⟩ := List.mem_map.mp hy
      exact ⟨"int", .base (.int i)⟩
    · rw [ascV_map]
      exact q _ H2 s2 rfl
theorem ev_31 {y : α × β × γ} (h : Ev (k3 k k1 k2) S H ta σ y) : Ev k S H (tOp (rIxT K) ta (tC (.int 0))) σ y.1 :=
  ev_op2 h ev_int fun v w H1 _ e1 e2 Q q => by
    obtain ⟨t, v1, v2, v3, rfl, h, r1, r2, r3⟩ := e1
    exact ⟨t, _, 0, v1, rfl, e2, h, rfl, q _ H1 (Same.refl _) r1⟩
theorem ev_33 {y : α × β × γ} (h : Ev (k3 k k1 k2) S H ta σ y) : Ev k2 S H (tOp (rIxT K) ta (tC (.int 2))) σ y.2.2 :=
  ev_op2 h ev_int fun v w H1 _ e1 e2 Q q => by
    obtain ⟨t, v1, v2, v3, rfl, h, r1, r2, r3⟩ := e1
    exact ⟨t, _, 2, v3, rfl, e2, h, rfl, q _ H1 (Same.refl _) r3⟩
theorem q_set3 {z : α × β × γ} {D : Ends} {u : TS} {i j m : Nat} (h : Ev (k3 k k1 k2) S H te σ z) (q : ∀ v1 v2 v3 H2, Same H H2 → k.rp S H2 v1 z.1 → k1.rp S H2 v2 z.2.1 → k2.rp S H2 v3 z.2.2 → u D (((σ.set i (some v1)).set j (some v2)).set m (some v3)) H2) : tSeq (tAsg te (gTup K 3 (gCons (gName i) (gCons (gName j) (gCons (gName m) gNil))))) u D σ H :=
  h.use fun v H2 s ⟨t, v1, v2, v3, e, hT, r1, r2, r3⟩ => ⟨t, _, e, hT, rfl, v1, _, rfl, v2, _, rfl, v3, _, rfl, rfl, q v1 v2 v3 H2 s r1 r2 r3⟩
theorem nn_I : ∀ (S : List Addr) (H : Hp) (v : V) (x : Int), (kI (K := K) (C := C)).rp S H v x → v ≠ .non := fun S H v x h e => by
  cases (show v = .int x from h)
  cases e
abbrev rIsN : R2 := fun x y H Q => y = .non ∧ Q (.bl (decide (x = .non))) H
theorem ev_isN {y : Option α} (h : Ev (kO k) S H te σ y) (nn : ∀ (S : List Addr) (H : Hp) (v : V) (x : α), k.rp S H v x → v ≠ .non) : Ev (K := K) (C := C) kB S H (tOp rIsN te (tC .non)) σ y.isNone := fun H1 s Q q =>
  h H1 s _ fun v H2 s2 r => ⟨rfl, q _ H2 s2 (by
    cases y with
    | none => cases (show v = .non from r); rfl
    | some y =>
      have := nn _ _ _ _ (show k.rp S H2 v y from r)
      show V.bl (decide (v = .non)) = V.bl false
      rw [decide_eq_false this])⟩
end
end Ew
namespace Ew
open PySem PySem.Spec PyProof.Rows L2
def giveB (b : Bk) (kw ws : List (List Int)) (r : Int) : Option Int → Bool
  | none => freeB b ws r
  | some g => decide (g ∈ looseB kw ws r)
def linkB (b : Bk) (kw ws : List (List Int)) (as : List Int) (z : Option Int) (l : Link) : Bool := decide (some l.2.1 = z) && (decide (l.1 ∈ takersB b ws as l.2.1) && giveB b kw ws l.1 l.2.2)
def setB (n : Int) (l : List Int) : Bool := ascI n (-1) l && decide ((0 : Int) < (l.length : Nat))
def barB (b : Bk) (kw ws : List (List Int)) (r : Int) (l : List Int) : Bool := if (!l.any fun z => canB b ws r z) = true then true else if freeB b ws r = true then false else (looseB kw ws r).all fun z => decide (z ∈ l)
def closB (b : Bk) (kw ws : List (List Int)) (as l : List Int) : Bool := setB b.ds.length l && (presB b as).all fun r => barB b kw ws r l
def chainB (b : Bk) (kw ws : List (List Int)) (as : List Int) : List Link → Option Int → List Int → Bool
  | [], z, _ => z.isNone
  | l :: ls, z, e => if (!linkB b kw ws as z l || decide (l.1 ∈ e)) = true then false else chainB b kw ws as ls l.2.2 (e ++ [l.1])
def setL (n : Int) (l : List Int) : Bool := decide (l ≠ []) && (decide (l.Pairwise (· < ·)) && (decide (0 ≤ at_ l 0) && decide (at_ l ((l.length : Int) - 1) < n)))
theorem set_ne {l : List Int} (h : (!true || decide (l = [])) = false) : 0 < l.length := by
  have h := of_decide_eq_false (show decide (l = []) = false from h)
  exact List.length_pos_iff.mpr h
def presL (rs : List (Int × List Int)) (as : List Int) : List Int := (iota rs.length).filter fun r => !decide (r ∈ as)
theorem kRs_len {K : PySem.W.Frag} {C : Addr} {S : List Addr} {H : Hp} {v : V} {l : List (Int × List Int)} (h : (kL (kR (K := K) (C := C))).rp S H v l) : ∀ x ∈ l, x.2.length ≤ 1000000 := fun x hx => by
  obtain ⟨_, t, v1, v2, _, _, _, r⟩ := kL_mem h x hx
  exact kT_len r
theorem presL_mem {rs : List (Int × List Int)} {as : List Int} {r : Int} : r ∈ presL rs as ↔ (0 ≤ r ∧ r < rs.length) ∧ r ∉ as := by
  unfold presL
  rw [List.mem_filter, iota_mem]
  simp
def lacksB (rs : List (Int × List Int)) (ws : List (List Int)) (l : List Int) (r : Int) : List Int := (at_ rs r).2.filter fun z => decide (z ∈ l) && !decide (z ∈ at_ ws r)
def outB (kw ws : List (List Int)) (l : List Int) (r : Int) : List Int := (at_ ws r).filter fun z => !decide (z ∈ l) && !decide (z ∈ at_ kw r)
def shutBad (rs : List (Int × List Int)) (kw ws : List (List Int)) (l : List Int) (r : Int) : Bool := !(lacksB rs ws l r).isEmpty && (decide (((at_ ws r).length : Int) < (at_ rs r).1) || !(outB kw ws l r).isEmpty)
def shutB (rs : List (Int × List Int)) (kw ws : List (List Int)) (as l : List Int) : Bool := (presL rs as).all fun r => !shutBad rs kw ws l r
theorem shut_yes {rs : List (Int × List Int)} {kw ws : List (List Int)} {as l : List Int} (h : ∀ x ∈ presL rs as, shutBad rs kw ws l x = false) : true = shutB rs kw ws as l := by
  unfold shutB
  rw [eq_comm, List.all_eq_true]
  intro x hx
  rw [h x hx]
  rfl
theorem shut_no {rs : List (Int × List Int)} {kw ws : List (List Int)} {as l : List Int} {i : Nat} {x : Int} (hx : (presL rs as)[i]? = some x) (h : shutBad rs kw ws l x = true) : false = shutB rs kw ws as l := by
  unfold shutB
  rw [eq_comm, Bool.eq_false_iff]
  intro h'
  have := List.all_eq_true.mp h' x (List.mem_of_getElem? hx)
  rw [h] at this
  cases this
end Ew
namespace Ew
open PySem PySem.Spec PyProof.Rows L2
theorem allT {α : Type} {l : List α} {i : Nat} {x : α} {p : α → Bool} (h : ∀ y ∈ l.take i, p y = false) (hx : l[i]? = some x) (hp : p x = false) : ∀ y ∈ l.take (i + 1), p y = false := by
  intro y hy
  rw [take_more hx] at hy
  rcases List.mem_append.mp hy with hy | hy
  · exact h y hy
  · rw [List.mem_singleton.mp hy]
    exact hp
/-- a kind as plain data -/
structure KPy {K : PySem.W.Frag} {C : Addr} {α : Type} [DecidableEq α] (k : Kd K C α) (n : Nat) where
  py : α → PyData
  dp : ∀ {S : List Addr} {H : Hp} {v : V} {x : α}, k.rp S H v x → Dp K H v (py x)
  lay : ∀ x, PyData.canLay0 (py x) = true
  dep : ∀ x, PyData.depth (py x) ≤ n
  eqv : ∀ x y, PyData.eqv (py x) (py y) = decide (x = y)
section
variable {K : PySem.W.Frag} {C : Addr} {α β γ : Type} {k : Kd K C α} {k1 : Kd K C β} {k2 : Kd K C γ} {n m o : Nat} {S : List Addr} {H : Hp} {σ : L2.St} {te ta tb : TE} {x y : α}
def pI : KPy (kI (K := K) (C := C)) 0 := ⟨PyData.int, fun {S H v x} h => by cases (show v = .int x from h); exact .int x, fun _ => rfl, fun _ => Nat.le_refl _, eqv_int⟩
theorem dpAll {R : V → α → Prop} {g : α → PyData} (h : ∀ v a, R v a → Dp K H v (g a)) : ∀ {vs : List V} {l : List α}, Paired R vs l → DpAll K H vs (l.map g)
  | _, _, .nil => .nil
  | _, _, .cons r t => .cons (h _ _ r) (dpAll h t)
def pT [DecidableEq α] (p : KPy k n) : KPy (kT k) (n + 1) := ⟨fun l => .tuple (l.map p.py), fun {S H v x} h => by
  obtain ⟨a, vs, rfl, h1, h2, _⟩ := h
  exact .tup h1 (dpAll (fun _ _ r => p.dp r) h2), fun l => layAll_map p.py p.lay l, fun l => Nat.succ_le_succ (depAll_map p.py p.dep l), fun x y => eqvAll_inj p.py p.eqv x y⟩
def p3 [DecidableEq α] [DecidableEq β] [DecidableEq γ] (p : KPy k n) (q : KPy k1 m) (r : KPy k2 o) : KPy (k3 k k1 k2) (n + m + o + 1) := ⟨fun z => .tuple [p.py z.1, q.py z.2.1, r.py z.2.2], fun {S H v x} h => by
  obtain ⟨t, v1, v2, v3, rfl, h1, h2, h3, h4⟩ := h
  exact .tup h1 (.cons (p.dp h2) (.cons (q.dp h3) (.cons (r.dp h4) .nil))), fun z => by
    show (PyData.canLay0 (p.py z.1) && (PyData.canLay0 (q.py z.2.1) && (PyData.canLay0 (r.py z.2.2) && true))) = true
    rw [p.lay, q.lay, r.lay]
    rfl, fun z => by
    show max (PyData.depth (p.py z.1)) (max (PyData.depth (q.py z.2.1)) (max (PyData.depth (r.py z.2.2)) 0)) + 1 ≤ _
    have := p.dep z.1
    have := q.dep z.2.1
    have := r.dep z.2.2
    omega, fun x y => by
    show (PyData.eqv (p.py x.1) (p.py y.1) && (PyData.eqv (q.py x.2.1) (q.py y.2.1) && (PyData.eqv (r.py x.2.2) (r.py y.2.2) && true))) = _
    rw [p.eqv, q.eqv, r.eqv]
    obtain ⟨a, b, e⟩ := x
    obtain ⟨c, d, f⟩ := y
    by_cases h1 : a = c <;> by_cases h2 : b = d <;> by_cases h3 : e = f <;> simp [h1, h2, h3]⟩
def pW [DecidableEq α] [DecidableEq β] {a b : Str} (p : KPy k n) (q : KPy k1 m) (ha : PyData.canLay0 (.str a) = true) (hb : PyData.canLay0 (.str b) = true) (hab : a ≠ b) : KPy (kW a b k k1) (n + m + 1) := ⟨fun z => match z with
    | .inl y => .tuple [.str a, p.py y]
    | .inr y => .tuple [.str b, q.py y], fun {S H v x} h => by
      obtain ⟨t, w, rfl, h⟩ := h
      cases x with
      | inl y => exact .tup h.1 (.cons (.str a) (.cons (p.dp h.2) .nil))
      | inr y => exact .tup h.1 (.cons (.str b) (.cons (q.dp h.2) .nil)), fun z => by
      cases z with
      | inl y =>
        show (PyData.canLay0 (.str a) && (PyData.canLay0 (p.py y) && true)) = true
        rw [ha, p.lay]
        rfl
      | inr y =>
        show (PyData.canLay0 (.str b) && (PyData.canLay0 (q.py y) && true)) = true
        rw [hb, q.lay]
        rfl, fun z => by
      cases z with
      | inl y =>
        show max 0 (max (PyData.depth (p.py y)) 0) + 1 ≤ _
        have := p.dep y
        omega
      | inr y =>
        show max 0 (max (PyData.depth (q.py y)) 0) + 1 ≤ _
        have := q.dep y
        omega, fun x y => by
      have hba : b ≠ a := Ne.symm hab
      cases x with
      | inl x =>
        cases y with
        | inl y =>
          show ((a == a) && (PyData.eqv (p.py x) (p.py y) && true)) = _
          rw [p.eqv]
          simp
        | inr y =>
          show ((a == b) && (PyData.eqv (p.py x) (q.py y) && true)) = _
          simp [hab]
      | inr x =>
        cases y with
        | inl y =>
          show ((b == a) && (PyData.eqv (q.py x) (p.py y) && true)) = _
          simp [hba]
        | inr y =>
          show ((b == b) && (PyData.eqv (q.py x) (q.py y) && true)) = _
          rw [q.eqv]
          simp⟩
theorem KPy.sh [DecidableEq α] (p : KPy k n) (h : n ≤ 64) (x : α) : SeqAt.shaped (p.py x) = true := shp (p.lay x) (p.dep x) h
theorem ev_eqD [DecidableEq α] (p : KPy k n) (ha : Ev k S H ta σ x) (hb : Ev k S H tb σ y) (hn : n ≤ 64 := by decide) : Ev (K := K) (C := C) kB S H (tOp (rEqD K) ta tb) σ (decide (x = y)) :=
  ev_op2 ha hb fun v w H1 _ e1 e2 Q q => ⟨_, _, p.dp e1, p.dp e2, p.sh hn x, p.sh hn y, q _ H1 (Same.refl _) (by rw [p.eqv]; rfl)⟩
theorem ev_neNil {l : List α} (ha : Ev (kL k) S H ta σ l) (fr : Fr C S H) : Ev (K := K) (C := C) kB S H (tOp (rNeNil K true) ta (tLst tNil)) σ (!l.isEmpty) :=
  ev_op2 ha (EvN.ev (evn_l0 (k := k) fr)) fun v w H1 _ e1 e2 Q q => by
    obtain ⟨a, vs, rfl, _, h1, p, _⟩ := e1
    obtain ⟨b, us, rfl, _, h2, p2, _⟩ := e2
    cases p2
    refine ⟨a, b, vs, rfl, rfl, .inl (.inl h1), .inl (.inl h2), ?_⟩
    rw [if_pos rfl]
    exact q _ H1 (Same.refl _) (by cases p <;> rfl)
theorem ev_eqNil {l : List α} (ha : Ev (kL k) S H ta σ l) (fr : Fr C S H) : Ev (K := K) (C := C) kB S H (tOp (rNeNil K false) ta (tLst tNil)) σ l.isEmpty :=
  ev_op2 ha (EvN.ev (evn_l0 (k := k) fr)) fun v w H1 _ e1 e2 Q q => by
    obtain ⟨a, vs, rfl, _, h1, p, _⟩ := e1
    obtain ⟨b, us, rfl, _, h2, p2, _⟩ := e2
    cases p2
    refine ⟨a, b, vs, rfl, rfl, .inl (.inl h1), .inl (.inl h2), ?_⟩
    rw [if_neg Bool.false_ne_true]
    exact q _ H1 (Same.refl _) (by cases p <;> rfl)
/-- list(t) == sorted(set(t)) -/
theorem ev_asc {w : World} {l : List Int} (h : Ev (K := K) (C := C) (kT kI) S H te σ l) (h' : Ev (K := K) (C := C) (kT kI) S H tb σ l) (hl : l.length < 64) : Ev (K := K) (C := C) kB S H (tOp (rEqD K) (tCB (rLOf K) (tCons te tNil)) (tCB (rSortedSet w) (tCons (tCB (rSetOfI K w) (tCons tb tNil)) tNil))) σ (decide (l.Pairwise (· < ·))) := fun H1 s Q q => by
  refine h H1 s _ fun v H2 s2 r => ?_
  obtain ⟨a, rfl, h1, _⟩ := kT_ints r
  refine ⟨a, _, rfl, .inr h1, fun c nc => ?_⟩
  refine h' _ (s.trans (s2.trans (sameU nc))) _ fun v H3 s3 r3 => ?_
  obtain ⟨a', rfl, h3, _⟩ := kT_ints r3
  refine ⟨a', l, rfl, h3, by omega, fun d cn nd hcn => ?_⟩
  refine ⟨d, _, cn, rfl, upd_same, by omega, fun ns p hp hm hl2 np => ?_⟩
  have e : decide (l = ns) = decide (l.Pairwise (· < ·)) := sorted_self hp fun j => by rw [hm]; simp
  have hc : (upd (upd H3 d (SetO w d (fun j => decide (j ∈ l)) cn)) p (.lst (ns.map V.int))) c = some (.lst (l.map V.int)) := sameU np _ _ (sameU nd _ _ (s3 _ _ upd_same))
  refine ⟨_, _, dp_dI (.inl (.inl hc)), dp_dI (.inl (.inl upd_same)), shp_dI _, shp_dI _, ?_⟩
  rw [eqv_dI, e]
  exact q _ _ (s2.trans ((sameU nc).trans (s3.trans ((sameU nd).trans (sameU np))))) rfl
theorem ev_neg {i : Int} (h : Ev (K := K) (C := C) kI S H te σ i) : Ev (K := K) (C := C) kI S H (tUn (rU fun i => .int (-i)) te) σ (-i) := fun H1 s Q q =>
  h H1 s _ fun v H2 s2 r => ⟨i, r, q _ H2 s2 rfl⟩
/-- t[-1] -/
theorem ev_lastT [Inhabited α] {l : List α} (ha : Ev (kT k) S H ta σ l) (hc : 0 < l.length) : Ev k S H (tOp (rIxT K) ta (tUn (rU fun i => .int (-i)) (tC (.int 1)))) σ (at_ l ((l.length : Int) - 1)) :=
  ev_op2 ha (ev_neg ev_int) fun v w H1 _ e1 e2 Q q => by
    obtain ⟨a, vs, rfl, h, p, _⟩ := e1
    have hl := pLen p
    obtain ⟨u, hu, r⟩ := atI_at (i := (l.length : Int) - 1) p (by omega)
    refine ⟨a, vs, -1, u, rfl, e2, h, ?_, q _ H1 (Same.refl _) r⟩
    have e : atI vs (-1) = atI vs ((l.length : Int) - 1) := by
      unfold atI ixN
      rw [if_neg (by omega), if_pos (by omega), if_pos (by omega), if_pos (by omega)]
      congr 1
      show some _ = some _
      congr 1
      omega
    rw [e]
    exact hu
end
end Ew
namespace Ew
open PySem PySem.Spec PyProof.Rows L2
section
variable {b : Bk} {kw ws : List (List Int)} {as : List Int} {z : Int}
def rdsOf (ch : List Link) : List Int := ch.map (·.1)
inductive Pth (b : Bk) (kw ws : List (List Int)) (as : List Int) (z : Int) : List Link → Int → Prop
  | nil : Pth b kw ws as z [] z
  | snoc {ch : List Link} {t r g : Int} : Pth b kw ws as z ch t → r ∈ takersB b ws as t → g ∈ looseB kw ws r → r ∉ rdsOf ch → Pth b kw ws as z (ch ++ [(r, t, some g)]) g
theorem Pth.chain {ch : List Link} {t : Int} (h : Pth b kw ws as z ch t) : ∀ tail, chainB b kw ws as (ch ++ tail) (some z) [] = chainB b kw ws as tail (some t) (rdsOf ch) := by
  induction h with
  | nil => intro tail; rfl
  | @snoc ch t r g _ h1 h2 h3 ih =>
    intro tail
    rw [List.append_assoc]
    show chainB b kw ws as (ch ++ ((r, t, some g) :: tail)) (some z) [] = _
    rw [ih, chainB]
    have e : linkB b kw ws as (some t) (r, t, some g) = true := by
      unfold linkB giveB
      simp only [decide_eq_true_eq, Bool.and_eq_true]
      exact ⟨trivial, h1, h2⟩
    rw [e, decide_eq_false h3, if_neg (by simp)]
    unfold rdsOf
    rw [List.map_append]
    rfl
theorem Pth.ends {ch : List Link} {t r : Int} (h : Pth b kw ws as z ch t) (h1 : r ∈ takersB b ws as t) (h2 : freeB b ws r = true) (h3 : r ∉ rdsOf ch) : chainB b kw ws as (ch ++ [(r, t, none)]) (some z) [] = true := by
  rw [h.chain, chainB]
  have e : linkB b kw ws as (some t) (r, t, none) = true := by
    unfold linkB giveB
    simp only [decide_eq_true_eq, Bool.and_eq_true]
    exact ⟨trivial, h1, h2⟩
  rw [e, decide_eq_false h3, if_neg (by simp)]
  rfl
def Done (kw ws : List (List Int)) (c : List (Int × List Link)) (r : Int) : Prop := ∀ g ∈ looseB kw ws r, g ∈ keysOf c
/-- all readers within chains are done, but perhaps one -/
structure Sr (b : Bk) (kw ws : List (List Int)) (as : List Int) (z : Int) (c : List (Int × List Link)) : Prop where
  pth : ∀ p ∈ c, Pth b kw ws as z p.2 p.1
  don : ∀ p ∈ c, ∀ r ∈ rdsOf p.2, Done kw ws c r ∧ freeB b ws r = false
  here : z ∈ keysOf c
theorem done_snoc {c : List (Int × List Link)} {r : Int} (h : Done kw ws c r) (p : Int × List Link) : Done kw ws (c ++ [p]) r := fun g hg => by
  rw [keys_snoc]
  exact List.mem_append.mpr (.inl (h g hg))
theorem getC_snoc {c : List (Int × List Link)} {t : Int} (h : t ∈ keysOf c) (p : Int × List Link) : getC (c ++ [p]) t = getC c t := by
  unfold getC
  rw [List.find?_append]
  cases q : c.find? fun p => decide (p.1 = t) with
  | some x => rfl
  | none =>
    unfold keysOf at h
    obtain ⟨y, hy, e⟩ := List.mem_map.mp h
    have := List.find?_eq_none.mp q y hy
    simp [e] at this
theorem gives_done {r t : Int} : ∀ {gs : List Int} {c w}, (∀ g ∈ gs, g ∈ keysOf c) → givesB r t gs (c, w) = (c, w)
  | [], _, _, _ => rfl
  | g :: gs, c, w, h => by
    rw [givesB, if_pos (h g (by simp))]
    exact gives_done fun x hx => h x (by simp [hx])
/-- while one reader's works are given -/
structure Sg (b : Bk) (kw ws : List (List Int)) (as : List Int) (z : Int) (t r : Int) (c : List (Int × List Link)) : Prop where
  pth : ∀ p ∈ c, Pth b kw ws as z p.2 p.1
  don : ∀ p ∈ c, ∀ r' ∈ rdsOf p.2, (Done kw ws c r' ∨ r' = r) ∧ freeB b ws r' = false
  here : z ∈ keysOf c
  tk : t ∈ keysOf c
  nr : r ∉ rdsOf (getC c t)
theorem gives_sr {r t : Int} (hr : r ∈ takersB b ws as t) (hf : freeB b ws r = false) : ∀ {gs : List Int} {c w}, (∀ g ∈ gs, g ∈ looseB kw ws r) → Sg b kw ws as z t r c →
    Sg b kw ws as z t r (givesB r t gs (c, w)).1 ∧ (∀ g ∈ gs, g ∈ keysOf (givesB r t gs (c, w)).1) ∧ (∀ g ∈ keysOf c, g ∈ keysOf (givesB r t gs (c, w)).1) ∧
    (∀ g ∈ keysOf (givesB r t gs (c, w)).1, g ∈ keysOf c ∨ g ∈ (givesB r t gs (c, w)).2) ∧ ∀ g ∈ w, g ∈ (givesB r t gs (c, w)).2
  | [], c, w, _, h => ⟨h, fun _ m => (nomatch m), fun _ m => m, fun _ m => .inl m, fun _ m => m⟩
  | g :: gs, c, w, hg, h => by
    rw [givesB]
    by_cases hm : g ∈ keysOf c
    · rw [if_pos hm]
      obtain ⟨a1, a2, a3, a4, a5⟩ := gives_sr hr hf (gs := gs) (c := c) (w := w) (fun x hx => hg x (by simp [hx])) h
      exact ⟨a1, fun x hx => by
        rcases List.mem_cons.mp hx with rfl | hx
        · exact a3 _ hm
        · exact a2 x hx, a3, a4, a5⟩
    · rw [if_neg hm]
      have hgt : t ∈ keysOf (c ++ [(g, getC c t ++ [(r, t, some g)])]) := by
        rw [keys_snoc]
        exact List.mem_append.mpr (.inl h.tk)
      obtain ⟨q, hq, e1, e2⟩ := getC_mem h.tk
      have hp : Pth b kw ws as z (getC c t ++ [(r, t, some g)]) g := by
        have := h.pth q hq
        rw [e1, e2] at this
        exact this.snoc hr (hg g (by simp)) h.nr
      have h' : Sg b kw ws as z t r (c ++ [(g, getC c t ++ [(r, t, some g)])]) := by
        refine ⟨fun p hp' => ?_, fun p hp' r' hr' => ?_, ?_, hgt, by rw [getC_snoc h.tk]; exact h.nr⟩
        · rcases List.mem_append.mp hp' with hp' | hp'
          · exact h.pth p hp'
          · rw [List.mem_singleton.mp hp']
            exact hp
        · rcases List.mem_append.mp hp' with hp' | hp'
          · obtain ⟨d, f⟩ := h.don p hp' r' hr'
            exact ⟨d.imp (fun d => done_snoc d _) id, f⟩
          · rw [List.mem_singleton.mp hp'] at hr'
            have hr'' : r' ∈ rdsOf (getC c t) ++ [r] := by
              unfold rdsOf at *
              rw [List.map_append] at hr'
              exact hr'
            rcases List.mem_append.mp hr'' with m | m
            · rw [← e2] at m
              obtain ⟨d, f⟩ := h.don q hq r' m
              exact ⟨d.imp (fun d => done_snoc d _) id, f⟩
            · rw [List.mem_singleton.mp m]
              exact ⟨.inr rfl, hf⟩
        · rw [keys_snoc]
          exact List.mem_append.mpr (.inl h.here)
      obtain ⟨a1, a2, a3, a4, a5⟩ := gives_sr hr hf (gs := gs) (w := w ++ [g]) (fun x hx => hg x (by simp [hx])) h'
      have hgk : g ∈ keysOf (c ++ [(g, getC c t ++ [(r, t, some g)])]) := by
        rw [keys_snoc]
        simp
      refine ⟨a1, fun x hx => ?_, fun x hx => a3 x (by rw [keys_snoc]; exact List.mem_append.mpr (.inl hx)), fun x hx => ?_, fun x hx => a5 x (List.mem_append.mpr (.inl hx))⟩
      · rcases List.mem_cons.mp hx with rfl | hx
        · exact a3 _ hgk
        · exact a2 x hx
      · rcases a4 x hx with h1 | h1
        · rw [keys_snoc] at h1
          rcases List.mem_append.mp h1 with h1 | h1
          · exact .inl h1
          · rw [List.mem_singleton.mp h1]
            exact .inr (a5 g (by simp))
        · exact .inr h1
theorem getC_don {c : List (Int × List Link)} (h : Sr b kw ws as z c) {t r : Int} (ht : t ∈ keysOf c) (hr : r ∈ rdsOf (getC c t)) : Done kw ws c r ∧ freeB b ws r = false := by
  obtain ⟨q, hq, _, e⟩ := getC_mem ht
  rw [← e] at hr
  exact h.don q hq r hr
theorem getC_pth {c : List (Int × List Link)} (h : Sr b kw ws as z c) {t : Int} (ht : t ∈ keysOf c) : Pth b kw ws as z (getC c t) t := by
  obtain ⟨q, hq, e1, e2⟩ := getC_mem ht
  have := h.pth q hq
  rwa [e1, e2] at this
/-- all readers of one work -/
theorem read_sr {t : Int} : ∀ {rs : List Int} {c w}, (∀ r ∈ rs, r ∈ takersB b ws as t) → Sr b kw ws as z c → t ∈ keysOf c →
    match readB b kw ws t rs (c, w) with
    | .inl ch => chainB b kw ws as ch (some z) [] = true
    | .inr (c', w') => Sr b kw ws as z c' ∧ (∀ r ∈ rs, freeB b ws r = false ∧ Done kw ws c' r) ∧ (∀ g ∈ keysOf c, g ∈ keysOf c') ∧ (∀ g ∈ keysOf c', g ∈ keysOf c ∨ g ∈ w') ∧ ∀ g ∈ w, g ∈ w'
  | [], c, w, _, h, _ => ⟨h, fun _ m => (nomatch m), fun _ m => m, fun _ m => .inl m, fun _ m => m⟩
  | r :: rs, c, w, hr, h, ht => by
    rw [readB]
    have hr1 := hr r (by simp)
    by_cases hf : freeB b ws r = true
    · rw [if_pos hf]
      refine (getC_pth h ht).ends hr1 hf fun m => ?_
      have := (getC_don h ht m).2
      rw [hf] at this
      cases this
    · rw [if_neg hf]
      have hf : freeB b ws r = false := Bool.eq_false_iff.mpr hf
      have key : Sr b kw ws as z (givesB r t (looseB kw ws r) (c, w)).1 ∧ Done kw ws (givesB r t (looseB kw ws r) (c, w)).1 r ∧ (∀ g ∈ keysOf c, g ∈ keysOf (givesB r t (looseB kw ws r) (c, w)).1) ∧
          (∀ g ∈ keysOf (givesB r t (looseB kw ws r) (c, w)).1, g ∈ keysOf c ∨ g ∈ (givesB r t (looseB kw ws r) (c, w)).2) ∧ ∀ g ∈ w, g ∈ (givesB r t (looseB kw ws r) (c, w)).2 := by
        by_cases hd : Done kw ws c r
        · rw [gives_done hd]
          exact ⟨h, hd, fun _ m => m, fun _ m => .inl m, fun _ m => m⟩
        · have nr : r ∉ rdsOf (getC c t) := fun m => hd (getC_don h ht m).1
          have hg : Sg b kw ws as z t r c := ⟨h.pth, fun p hp r' hr' => let ⟨d, f⟩ := h.don p hp r' hr'; ⟨.inl d, f⟩, h.here, ht, nr⟩
          obtain ⟨a1, a2, a3, a4, a5⟩ := gives_sr hr1 hf (gs := looseB kw ws r) (w := w) (fun _ m => m) hg
          refine ⟨⟨a1.pth, fun p hp r' hr' => ?_, a1.here⟩, a2, a3, a4, a5⟩
          obtain ⟨d, f⟩ := a1.don p hp r' hr'
          refine ⟨?_, f⟩
          rcases d with d | rfl
          · exact d
          · exact a2
      generalize givesB r t (looseB kw ws r) (c, w) = s at *
      obtain ⟨c1, w1⟩ := s
      obtain ⟨k1, k2, k3, k4, k5⟩ := key
      have ih := read_sr (t := t) (rs := rs) (c := c1) (w := w1) (fun x hx => hr x (by simp [hx])) k1 (k3 t ht)
      generalize readB b kw ws t rs (c1, w1) = res at *
      cases res with
      | inl ch => exact ih
      | inr s =>
        obtain ⟨c2, w2⟩ := s
        obtain ⟨i1, i2, i3, i4, i5⟩ := ih
        refine ⟨i1, fun x hx => ?_, fun g hg => i3 g (k3 g hg), fun g hg => ?_, fun g hg => i5 g (k5 g hg)⟩
        · rcases List.mem_cons.mp hx with rfl | hx
          · exact ⟨hf, fun g hg => i3 g (k2 g hg)⟩
          · exact i2 x hx
        · rcases i4 g hg with h1 | h1
          · rcases k4 g h1 with h1 | h1
            · exact .inl h1
            · exact .inr (i5 g h1)
          · exact .inr h1
/-- what is not waiting is done -/
def Proc (b : Bk) (kw ws : List (List Int)) (as : List Int) (c : List (Int × List Link)) (w : List Int) : Prop := ∀ t ∈ keysOf c, t ∉ w → ∀ r ∈ takersB b ws as t, freeB b ws r = false ∧ Done kw ws c r
theorem stepN_sr (hw : RowsIn b ws) : ∀ {n : Nat} {c w}, SOk b.ds.length c w → mu b.ds.length c w < n → Sr b kw ws as z c → Proc b kw ws as c w →
    match stepN b kw ws as n c w with
    | .inl ch => chainB b kw ws as ch (some z) [] = true
    | .inr s => ∃ c', s = srt (keysOf c') ∧ SOk b.ds.length c' [] ∧ Sr b kw ws as z c' ∧ Proc b kw ws as c' []
  | 0, _, _, _, h, _, _ => absurd h (Nat.not_lt_zero _)
  | n + 1, c, [], ok, _, h, p => ⟨c, rfl, ok, h, p⟩
  | n + 1, c, t :: w, ok, hm, h, p => by
    have ht := ok.sub t (by simp)
    have ok' : SOk b.ds.length c w := ⟨ok.nd, ok.rg, fun g hg => ok.sub g (by simp [hg]), ok.len⟩
    have hmu : mu b.ds.length c w < n := by
      unfold mu at *
      rw [List.length_cons] at hm
      omega
    have key := read_sr (t := t) (rs := takersB b ws as t) (c := c) (w := w) (fun _ m => m) h ht
    have key2 : ∀ c' w', readB b kw ws t (takersB b ws as t) (c, w) = .inr (c', w') → SOk b.ds.length c' w' ∧ mu b.ds.length c' w' = mu b.ds.length c w := fun c' w' e =>
      read_ok (fun w hw' => hw.rg w hw') ok' ht (fun r hr => (IsRd.of hw.len (List.mem_filter.mp hr).1).1) e
    rw [stepN]
    generalize readB b kw ws t (takersB b ws as t) (c, w) = res at *
    cases res with
    | inl ch => exact key
    | inr s =>
      obtain ⟨c', w'⟩ := s
      obtain ⟨i1, i2, i3, i4, i5⟩ := key
      obtain ⟨j1, j2⟩ := key2 c' w' rfl
      refine stepN_sr hw j1 (by omega) i1 fun t' ht' hn r hr => ?_
      rcases i4 t' ht' with h1 | h1
      · by_cases e : t' = t
        · subst e
          exact i2 r hr
        · have : t' ∉ t :: w := fun m => by
            rcases List.mem_cons.mp m with m | m
            · exact e m
            · exact hn (i5 t' m)
          obtain ⟨f, d⟩ := p t' h1 this r hr
          exact ⟨f, fun g hg => i3 g (d g hg)⟩
      · exact absurd h1 hn
theorem step_right (hw : RowsIn b ws) (n6 : b.ds.length ≤ 6) (z0 : 0 ≤ z ∧ z < b.ds.length) : match stepB b kw ws as z with
    | .inl ch => chainB b kw ws as ch (some z) [] = true
    | .inr s => ∃ c', s = srt (keysOf c') ∧ SOk b.ds.length c' [] ∧ Sr b kw ws as z c' ∧ Proc b kw ws as c' [] := by
  unfold stepB
  refine stepN_sr hw ⟨by simp [keysOf], fun g hg => by simp [keysOf] at hg; omega, fun g hg => by simpa [keysOf] using hg, fun q hq => by simp at hq; rw [hq]; simp⟩ (by unfold mu; simp; omega)
    ⟨fun p hp => by simp at hp; rw [hp]; exact .nil, fun p hp r hr => by simp at hp; rw [hp] at hr; simp [rdsOf] at hr, by simp [keysOf]⟩ fun t ht hn => ?_
  exact absurd (by simpa [keysOf] using ht) hn
end
end Ew
namespace Ew
open PySem PySem.Spec PyProof.Rows L2
theorem srt_mem {l : List Int} {x : Int} : x ∈ srt l ↔ x ∈ l := (srt_perm l).mem_iff
theorem srt_lt {l : List Int} (h : l.Nodup) : (srt l).Pairwise (· < ·) := by
  have h1 := srt_up l
  have h2 : (srt l).Nodup := (srt_perm l).nodup_iff.mpr h
  exact (h1.and h2).imp fun ⟨a, b⟩ => by omega
section
variable {b : Bk} {kw ws : List (List Int)} {as : List Int}
/-- rows of readers -/
def RowsOk (b : Bk) (ws : List (List Int)) : Prop := ws.length = b.rs.length ∧ ∀ i : Int, 0 ≤ i ∧ i < ws.length → RowOk (at_ b.rs i) (at_ ws i)
end
end Ew
namespace Ew
open PySem PySem.Spec PyProof.Rows L2
theorem kTI_any {K : PySem.W.Frag} {C : Addr} {S T : List Addr} {H : Hp} {v : V} {x : List Int} (h : (kT (kI (K := K) (C := C))).rp S H v x) : (kT (kI (K := K) (C := C))).rp T H v x := let ⟨a, e, q, b⟩ := kT_ints h; ⟨a, _, e, q, paired_ints _, b⟩
end Ew
namespace Ew
open PySem PySem.Spec PyProof.Rows L2
section
variable {P : Program} {w : World} {K : PySem.W.Frag} {mg : Str → Option Value} {base : Heap} {C : Addr}
abbrev sLPrs : Stmt := (top 36)
def sp__law_present (K : PySem.W.Frag) (C : Addr) : Sp := spN (K := K) (C := C) (aC (kL (kP kI (kT kI))) (aC (kT kI) aN)) (kL kI) (fun (rs , as , _) => True) fun (rs, as, _) => presL rs as
theorem scLPrs : FnScope ["readers", "absent", "at"] ["readers", "absent"] (defScope sLPrs) := ⟨rfl, rfl, rfl, by decide +kernel, rfl, by decide +kernel, by decide +kernel⟩
theorem c__law_present (D : DefAt K mg "_law_present" sLPrs ["readers", "absent"]) (B : Bi mg) (T : BkC P w K mg base C)   : C8.Cal P w K mg base 1 "_law_present" (sp__law_present K C) [] := by
  refine calN D scLPrs rfl fun f cdv A outer s H vs Q E S a hr fr ha hp q => ?_
  obtain ⟨rs, as, _⟩ := a
  obtain ⟨w_readers, _, rfl, h_readers, w_absent, _, rfl, h_absent, e⟩ := ha
  cases (show _ = [] from e)
  have h_readers : ((kL (kP kI (kT kI))) : Kd K C _).rp S H w_readers rs := h_readers
  have h_absent : ((kT kI) : Kd K C _).rp S H w_absent as := h_absent
  have n_readers := kL_len h_readers
  have n_absent := kT_len h_absent
  have q : ∀ p H', H p = none → Same H H' → ((kL kI) : Kd K C _).rp S H' (.ref p) (presL rs as) → Q (.ref p) H' := q

  refine ⟨_, (pss_one (ps_ret (pe_lc (own := [("at", 2)]) (g := (gName 2)) (tt := (tTest (tOp (rIn K true) (tVar 2) (tVar 1)))) (te := (tVar 2)) rfl scLPrs.nd (pi_range1 rfl B.range (pa_cons (pe_callB call_len_seq (by rfl) B.len PySem.boot_len (pa_cons (pv 0) pa_nil)) pa_nil)) (blkOk_by (own := [("at", 2)]) (N := ["readers", "absent", "at"]) (sc := defScope sLPrs) (by decide +kernel)) (fun _ _ _ _ _ => (pg_name (i := 2) scLPrs.nd rfl (.inl rfl))) (fun _ _ _ _ _ => pts_one (pt_cmpR op_notIn_seq (pv 2) (pv 1) (by rfl))) (fun _ _ _ _ _ => (pv 2))))), ?_⟩
  try dsimp only [cxOf, Cx.nox, Cx.wish]
  exact s_retN (EvN.to (evn_lc fr (evi_rng (ev_len (ev_var rfl h_readers Lf.refl) IsSq.l) (by first | omega | (dsimp only; omega)) (by first | omega | (dsimp only; omega))) (by rw [iota_len]; omega) (fun y1 hy1 D1 v1 H1 l1 f1 hv1 => lcb_name rfl (evt_test (ev_nin (ev_var rfl hv1 Lf.refl) (ev_var rfl h_absent l1) IsSq.t)) (fun ht1 => (ev_var rfl hv1 Lf.refl)))) (List.map_id' _)) fun p H' n s' r => q p H' n s' r
abbrev sLSet : Stmt := (top 38)
def sp__law_is_set (K : PySem.W.Frag) (C : Addr) : Sp := spD (K := K) (C := C) (aC (kT kI) (aC kI aN)) kB (fun (l , n , _) => l.length < 64) fun (l, n, _) => setL n l
theorem scLSet : FnScope ["value", "works", "one"] ["value", "works"] (defScope sLSet) := ⟨rfl, rfl, rfl, by decide +kernel, rfl, by decide +kernel, by decide +kernel⟩
theorem c__law_is_set (D : DefAt K mg "_law_is_set" sLSet ["value", "works"]) (B : Bi mg) (T : BkC P w K mg base C)  (Bset : mg "set" = none) : C8.Cal P w K mg base 1 "_law_is_set" (sp__law_is_set K C) [] := by
  refine calD D scLSet rfl fun f cdv A outer s H vs Q E S a hr fr ha hp q => ?_
  obtain ⟨l, n, _⟩ := a
  obtain ⟨w_value, _, rfl, h_value, w_works, _, rfl, h_works, e⟩ := ha
  cases (show _ = [] from e)
  have h_value : ((kT kI) : Kd K C _).rp S H w_value l := h_value
  have h_works : (kI : Kd K C _).rp S H w_works n := h_works
  have n_value := kT_len h_value
  have q : ∀ v H', Same H H' → (kB : Kd K C _).rp S H' v (setL n l) → Q v H' := q
  have hp : l.length < 64 := hp
  refine ⟨_, (pss_cons (ps_if (PW.pt (pw_or (pt_not (pt_val (pe_callB call_isi (by rfl) B.isinstance (by decide +kernel) (pa_cons (pv 0) (pa_cons (pe_bltn (v := .ty "tuple") (by rfl) B.tuple (by decide +kernel) rfl) pa_nil))))) (pw_or1 (pt_cmpR (op_eqD hr.units) (pv 0) (pe_tup pa_nil) (nomark _))))) (pss_one (ps_ret pe_bl)) pss_nil)
 (pss_cons (ps_if (pt_cmpR (op_neNil (Nat.lt_of_le_of_lt (Nat.le_add_right _ 64) hr.units)) (pe_lc (own := [("one", 2)]) (g := (gName 2)) (tt := (tOr (tNot (tB (tCB (rIsi K) (tCons (tVar 2) (tCons (tC (.ty "int")) tNil))))) (tB (tCB (rIsi K) (tCons (tVar 2) (tCons (tC (.ty "bool")) tNil)))))) (te := (tVar 2)) rfl scLSet.nd (pi_tup (pv 0)) (blkOk_by (own := [("one", 2)]) (N := ["value", "works", "one"]) (sc := defScope sLSet) (by decide +kernel)) (fun _ _ _ _ _ => (pg_name (i := 2) scLSet.nd rfl (.inl rfl))) (fun _ _ _ _ _ => pts_one (PW.pt (pw_or (pt_not (pt_val (pe_callB call_isi (by rfl) B.isinstance (by decide +kernel) (pa_cons (pv 2) (pa_cons (pe_bltn (v := .ty "int") (by rfl) B.int (by decide +kernel) rfl) pa_nil))))) (pw_or1 (pt_val (pe_callB call_isi (by rfl) B.isinstance (by decide +kernel) (pa_cons (pv 2) (pa_cons (pe_bltn (v := .ty "bool") (by rfl) B.bool (by decide +kernel) rfl) pa_nil)))))))) (fun _ _ _ _ _ => (pv 2))) (pe_lst pa_nil) (nomark _)) (pss_one (ps_ret pe_bl)) pss_nil)
 (pss_one (ps_ret (pe_and (pe_cmpR (op_eqD hr.units) (pe_callTy call_list_of (by rfl) B.list (by decide +kernel) (pa_cons (pv 0) pa_nil)) (pe_callB (cr_sortedSet rfl) (by rfl) B.sorted (by decide +kernel) (pa_cons (pe_callTy (cr_setOfI rfl) (by rfl) Bset (by decide +kernel) (pa_cons (pv 0) pa_nil)) pa_nil)) (nomark _)) (pe_and (pe_cmpR op_le pe_int (pe_ix ix_tup (pv 0) pe_int (fun _ _ => rfl)) (nomark _)) (pe_one (pe_cmpR op_lt (pe_ix ix_tup (pv 0) (pe_un un_neg pe_int) (fun _ _ => rfl)) (pv 1) (nomark _))))))))), ?_⟩
  try dsimp only [cxOf, Cx.nox, Cx.wish]
  exact q_if (evt_or (evt_not (evt_b (ev_isi (b := true) (ev_var rfl h_value Lf.refl) bt_kT (kit_ty (by decide +kernel))))) (fun hc => (evt_test (ev_eqD (pT pI) (ev_var rfl h_value Lf.refl) (ev_t0 (k := (kI : Kd K C _))))))) (fun H1_ b1 s1 => s_ret (Ev.to ev_bl (by have b1 : (!true || decide (l = [])) = true := b1; have h := of_decide_eq_true (show decide (l = []) = true from b1); subst h; rfl)) fun v H' s' r => q v H' (s1.trans s') r) fun H1_ b1 s1 =>
    q_if (evt_test (ev_neNil (EvN.ev (evn_lc (fr.same s1) (evi_tup (ev_var rfl h_value (Lf.same s1))) n_value (fun y1 hy1 D1 v1 H1 l1 f1 hv1 => lcb_name rfl (evt_or (evt_not (evt_b (ev_isi (b := true) (ev_var rfl hv1 Lf.refl) bt_kI (kit_ty (by decide +kernel))))) (fun hc => (evt_b (ev_isi (b := false) (ev_var rfl hv1 Lf.refl) bt_kI (kit_ty (by decide +kernel)))))) (fun ht1 => (ev_var rfl hv1 Lf.refl))))) (fr.same s1))) (fun H2_ b2 s2 => s_ret (Ev.to ev_bl (absurd b2 (by simp))) fun v H' s' r => q v H' (s1.trans (s2.trans s')) r) fun H2_ b2 s2 =>
    s_ret (Ev.to (ev_andV (ev_asc (ev_var rfl h_value (Lf.trans (Lf.same s1) (Lf.same s2))) (ev_var rfl h_value (Lf.trans (Lf.same s1) (Lf.same s2))) hp) (fun _ => (ev_andV (ev_B2 ev_int (ev_ixT (ev_var rfl h_value (Lf.trans (Lf.same s1) (Lf.same s2))) ev_int (by have := set_ne b1; omega))) (fun _ => (ev_B2 (ev_lastT (ev_var rfl h_value (Lf.trans (Lf.same s1) (Lf.same s2))) (by have := set_ne b1; omega)) (ev_var rfl h_works (Lf.trans (Lf.same s1) (Lf.same s2)))))))) (by have := set_ne b1; unfold setL; rw [decide_eq_true (show l ≠ [] from fun e => by rw [e] at this; exact absurd this (by decide))]; rfl)) fun v H' s' r => q v H' (s1.trans (s2.trans s')) r
end
end Ew
namespace Ew
open PySem PySem.Spec PyProof.Rows L2
def setsF : Nat → List (List Int)
  | 0 => [[]]
  | k + 1 => setsF k ++ (setsF k).map fun s => s ++ [(k : Int)]
def allSets (n : Nat) : List (List Int) := (setsF n).drop 1
theorem setsF_len : ∀ n, (setsF n).length = 2 ^ n
  | 0 => rfl
  | n + 1 => by
    rw [setsF, List.length_append, List.length_map, setsF_len n, Nat.pow_succ]
    omega
theorem setsF_mem : ∀ {n : Nat} {l : List Int}, l ∈ setsF n ↔ l.Pairwise (· < ·) ∧ ∀ x ∈ l, 0 ≤ x ∧ x < (n : Int)
  | 0, l => by
    unfold setsF
    rw [List.mem_singleton]
    constructor
    · rintro rfl
      exact ⟨.nil, fun x hx => nomatch hx⟩
    · rintro ⟨_, h⟩
      cases l with
      | nil => rfl
      | cons x l => have := h x (by simp); omega
  | n + 1, l => by
    rw [setsF, List.mem_append, List.mem_map]
    constructor
    · rintro (h | ⟨s, h, rfl⟩)
      · obtain ⟨h1, h2⟩ := setsF_mem.mp h
        exact ⟨h1, fun x hx => by have := h2 x hx; omega⟩
      · obtain ⟨h1, h2⟩ := setsF_mem.mp h
        refine ⟨List.pairwise_append.mpr ⟨h1, List.pairwise_singleton _ _, fun x hx y hy => ?_⟩, fun x hx => ?_⟩
        · have := h2 x hx
          rw [List.mem_singleton.mp hy]
          omega
        · rcases List.mem_append.mp hx with hx | hx
          · have := h2 x hx
            omega
          · rw [List.mem_singleton.mp hx]
            omega
    · rintro ⟨h1, h2⟩
      by_cases hm : (n : Int) ∈ l
      · right
        have hne : l ≠ [] := fun e => by rw [e] at hm; cases hm
        have e : l = l.dropLast ++ [l.getLast hne] := (List.dropLast_concat_getLast hne).symm
        have hl : l.getLast hne = (n : Int) := by
          rw [e] at hm h1
          rcases List.mem_append.mp hm with hm | hm
          · have h3 := (List.pairwise_append.mp h1).2.2 _ hm _ (List.mem_singleton.mpr rfl)
            have := h2 (l.getLast hne) (List.getLast_mem hne)
            omega
          · exact (List.mem_singleton.mp hm).symm
        refine ⟨l.dropLast, setsF_mem.mpr ⟨?_, fun x hx => ?_⟩, by rw [← hl]; exact e.symm⟩
        · rw [e] at h1
          exact (List.pairwise_append.mp h1).1
        · have a := h2 x (by rw [e]; exact List.mem_append_left _ hx)
          rw [e] at h1
          have := (List.pairwise_append.mp h1).2.2 _ hx _ (List.mem_singleton.mpr rfl)
          omega
      · left
        refine setsF_mem.mpr ⟨h1, fun x hx => ?_⟩
        have := h2 x hx
        have : x ≠ (n : Int) := fun e => hm (e ▸ hx)
        omega
theorem setsF_head : ∀ n, ∃ r, setsF n = [] :: r
  | 0 => ⟨[], rfl⟩
  | n + 1 => by
    obtain ⟨r, e⟩ := setsF_head n
    exact ⟨r ++ (setsF n).map fun s => s ++ [(n : Int)], by rw [setsF, e]; rfl⟩
theorem setsF_ne : ∀ {n : Nat} {i : Nat} {l : List Int}, (setsF n)[i]? = some l → i ≠ 0 → l ≠ []
  | 0, i, l, h, hi => by
    cases i with
    | zero => exact absurd rfl hi
    | succ i => simp [setsF] at h
  | n + 1, i, l, h, hi => by
    rw [setsF] at h
    by_cases hl : i < (setsF n).length
    · rw [List.getElem?_append_left hl] at h
      exact setsF_ne h hi
    · rw [List.getElem?_append_right (by omega), List.getElem?_map] at h
      obtain ⟨s, _, e⟩ := Option.map_eq_some_iff.mp h
      rw [← e]
      simp
theorem allSets_mem {n : Nat} {l : List Int} : l ∈ allSets n ↔ l ≠ [] ∧ l.Pairwise (· < ·) ∧ ∀ x ∈ l, 0 ≤ x ∧ x < (n : Int) := by
  unfold allSets
  obtain ⟨r, e⟩ := setsF_head n
  constructor
  · intro h
    obtain ⟨i, hi, e2⟩ := List.mem_iff_getElem.mp h
    have h1 : (setsF n)[1 + i]? = some l := by
      rw [← e2, ← List.getElem?_drop, List.getElem?_eq_getElem hi]
    exact ⟨setsF_ne h1 (by omega), setsF_mem.mp (List.mem_of_getElem? h1)⟩
  · rintro ⟨h1, h2⟩
    have := setsF_mem.mpr h2
    rw [e] at this ⊢
    rcases List.mem_cons.mp this with h | h
    · exact absurd h h1
    · exact h
end Ew
namespace Ew
open PySem PySem.Spec PyProof.Rows L2
theorem at_eq {α : Type} [Inhabited α] {l : List α} {i : Nat} {x : α} (h : l[i]? = some x) : at_ l (i : Int) = x := by
  unfold at_
  rw [Int.toNat_natCast, List.getD_eq_getElem?_getD, h]
  rfl
theorem RowsOk.rowsIn {b : Bk} {ws : List (List Int)} (h : RowsOk b ws) (ok : DsOk b.ds b.rs) : RowsIn b ws := ⟨h.1, fun w hw x hx => by
  obtain ⟨j, hj, e⟩ := List.mem_iff_getElem.mp hw
  have r := h.2 (j : Int) ⟨by omega, by omega⟩
  rw [at_eq (show ws[j]? = some w by rw [List.getElem?_eq_getElem hj, e])] at r
  have m := at_mem (l := b.rs) (i := (j : Int)) ⟨by omega, by rw [← h.1]; omega⟩
  exact (ok.ok _ m).2.2.2 x (r.2.1 x hx)⟩
theorem sub_len {a c : List Int} (ha : a.Nodup) (h : ∀ x ∈ a, x ∈ c) : a.length ≤ c.length := by
  induction a generalizing c with
  | nil => exact Nat.zero_le _
  | cons x a ih =>
    have hn := List.nodup_cons.mp ha
    have hx := h x (by simp)
    have := ih (c := c.erase x) hn.2 fun y hy => by
      have hne : y ≠ x := fun e => hn.1 (e ▸ hy)
      exact (List.mem_erase_of_ne hne).mpr (h y (by simp [hy]))
    rw [List.length_erase_of_mem hx] at this
    have := List.length_pos_of_mem hx
    rw [List.length_cons]
    omega
theorem presB_mem {b : Bk} {as : List Int} {r : Int} : r ∈ presB b as ↔ (0 ≤ r ∧ r < b.rs.length) ∧ r ∉ as := presL_mem
end Ew
namespace Ew
open PySem PySem.Spec PyProof.Rows L2
section
variable {K : PySem.W.Frag} {C : Addr} {α β : Type} {k : Kd K C α} {k1 : Kd K C β} {S : List Addr} {H : Hp} {σ : L2.St} {ta tb te : TE} {x : α}
abbrev stepKs : Ka K C (Bk × List (List Int) × List (List Int) × List Int × Int × Unit) := aC kBk (aC kWs (aC kWs (aC (kT kI) (aC kI aN))))
theorem ev_step {b : Bk} {kw ws : List (List Int)} {as : List Int} {z : Int} {t : TA} (ha : EvA (stepKs (K := K) (C := C)) S H t σ (b, kw, ws, as, z, ())) (fr : Fr C S H) (hp : RowsIn b ws ∧ kw.length = ws.length ∧ 0 ≤ z ∧ z < b.ds.length) : Ev (kStep (K := K) (C := C)) S H (tCall (sp_step K C) [] C8.E0 t) σ (stepB b kw ws as z) := fun H1 s Q q => ha H1 s _ fun vs H2 s2 rv => by
  show sp_step K C (vs ++ []) H2 Q _
  rw [List.append_nil]
  exact ⟨S, _, fr.same (s.trans s2), rv, hp, fun v H3 s3 r _ => q v H3 (s2.trans s3) r⟩
end
theorem kLink_any {K : PySem.W.Frag} {C : Addr} {S T : List Addr} {H : Hp} {v : V} {x : Link} (h : (kLink (K := K) (C := C)).rp S H v x) : (kLink (K := K) (C := C)).rp T H v x := by
  obtain ⟨t, v1, v2, v3, e, q, h1, h2, h3⟩ := h
  refine ⟨t, v1, v2, v3, e, q, h1, h2, ?_⟩
  cases hx : x.2.2 with
  | none => rw [hx] at h3; exact h3
  | some g => rw [hx] at h3; exact h3
end Ew
namespace Ew
open PySem PySem.Spec PyProof.Rows L2
section
variable {P : Program} {w : World} {K : PySem.W.Frag} {mg mb : Str → Option Value} {k : Nat} {fa a : Addr} {fd : FuncData} {x : Str} {sp : Sp} {s₁ : Shared} {vs : List Value} {ns : List Int}
/-- the law's call from an abstract heap that tracks at most the script -/
theorem call_from2 {H : Hp} (KX : K.In s₁.heap) (hns : s₁.heap.Ns mainGlobals mg) (hb : s₁.heap.Ns builtinsNs mb) (hbb : ∀ x : Str, x ≠ "__name__" → mb x = bootBuiltins x) (hlim : s₁.heap.NoLimit) (hg : s₁.gens = #[])
    (hr : Room k callerA) (hmods : ∃ o es ep, s₁.heap.get? sysModules = some o ∧ o.data = .dict es ep) (F : ∀ base : Heap, K.In base → base.Ns mainGlobals mg → (∃ o, base.get? sysModules = some o) → FnOkG P w K mg base k fa fd [x] sp) (hbind : ∀ (s : Shared) (u : Value), BindsTo s fd ⟨[u], []⟩ [(x, u)])
    (hsp : sp [.ref a] H (fun v _ => v = .bl true) fun _ _ _ => False) (hok : HOk P w H s₁.heap) (dicts : ∀ b o es ep, s₁.heap.get? b = some o → o.data = .dict es ep → H b = none) (kept : ∀ b o, K.lookup b = some o → H b = none)
    (frz : ∀ b u, H b = some u → ∃ o xs, u = .frz o (.lst xs)) :
    codeAny (model P w) callerA (.call (.ref fa) ⟨[.ref a], []⟩) (fun r s' => r = .ok (.ret (.bool true)) ∧ OldK s₁.heap s'.heap ∧ s'.os = s₁.os ∧ AllBare s'.gens) s₁ := by
  have nsB : ∀ {b : Addr} {m : Str → Option Value}, s₁.heap.Ns b m → (hidT s₁.heap H).Ns b m := by
    rintro b m ⟨o, es, ep, e, d, r⟩
    exact ⟨o, es, ep, hidT_get e (dicts _ _ _ _ e d), d, r⟩
  have inB : K.In (hidT s₁.heap H) := fun b o e => hidT_get (KX b o e) (kept b o e)
  have hM : Mod K mg (hidT s₁.heap H) := ⟨inB, nsB hns, ⟨mb, nsB hb, hbb⟩, let ⟨mc, h1, h2⟩ := hlim; ⟨mc, nsB h1, h2⟩⟩
  have noFr : ∀ b ∈ frs ([] : List Env), H b = none := fun b z => absurd (show b ∈ ([] : List Addr) from z) (by simp)
  have e0 : Env0 P w K mg (hidT s₁.heap H) callerA [] s₁ H := ⟨rfl, hM, fun b o e => of_hidT e, Nat.le_of_eq (hidT_size _ _), trivial, noFr, hok, .of_eq hg⟩
  refine codeAny_mono ((F _ inB (nsB hns) (let ⟨o, es, ep, e, d⟩ := hmods; ⟨o, hidT_get e (dicts _ _ _ _ e d)⟩)).run callerA [] s₁ H ⟨[.ref a], []⟩ [.ref a] [.ref a] _ _ rfl hr e0 (hbind s₁ (.ref a)) (.cons rfl .nil) hsp) fun r s' h => ?_
  cases r with
  | error e => exact False.elim h
  | ok fl =>
    cases fl with
    | next => exact False.elim h
    | brk => exact False.elim h
    | cont => exact False.elim h
    | ret u =>
      obtain ⟨v, H', os, bare, un, hok', r', q⟩ := h
      obtain rfl : v = .bl true := q
      obtain rfl : u = Value.bool true := r'
      refine ⟨rfl, OldK.of_keep fun b o e => ?_, os, bare⟩
      cases hb2 : H b with
      | none => exact un.keep b o e hb2 (fun z => absurd (show b ∈ ([] : List Addr) from z) (by simp)) (by simp)
      | some u =>
        obtain ⟨ob, xs, rfl⟩ := frz b u hb2
        obtain ⟨e1, _⟩ := hok b _ hb2
        obtain ⟨e2, _⟩ := hok' b _ (un.frzs b ob _ hb2)
        exact e2.trans (e1.symm.trans e)
end
/-- the end of a law whose def asks that no repr is under way -/
theorem walk_ofG2 {l : PySem.W.OpenLaw} {n k : Nat} {q : Program} {loose : List Str} {XP : (Str → Option Value) → Heap → Prop} {YP : World → Heap → Prop} {d : DefRec} {K : Params → PySem.W.Frag} {sp : World → Sp} {x : Str}
    (hn : l.most = some n) (hn2 : n ≤ sizeLine) (hdf : d.params.defaults = []) (hr : Room k callerA) (hq : importsNone q = true)
    (hY : ∀ (w : World) (h : Heap), YP w h → (K w.params).In h)
    (F : ∀ (w : World) (mg : Str → Option Value) (fa : Addr) (h : Heap), (K w.params).In h → h.Ns mainGlobals mg → mg d.name = some (.ref fa) →
      ∃ fd : FuncData, (∀ (s : Shared) (u : Value), BindsTo s fd ⟨[u], []⟩ [(x, u)]) ∧
        ∀ base : Heap, (K w.params).In base → base.Ns mainGlobals mg → (∃ o, base.get? sysModules = some o) → FnOkG l.prog w (K w.params) mg base k fa fd [x] (sp w))
    (hsp : ∀ (w : World) (H : Hp) (a : Addr) (ns : List Int), ns.length ≤ n → SqL (K w.params) H a (ns.map V.int) → sp w [.ref a] H (fun v _ => v = .bl true) fun _ _ _ => False) :
    PySem.W.WalkO q loose XP YP l.row.toRowW d [] (fun f vs => PySem.call f vs) := by
  refine Att.attach_call hn hdf fun w s₀ s₁ mg mb fa o pm cd doc a vs ns G Y ho hd hcd hmg hobj hints hlen hg => ?_
  have KX := hY w _ Y
  have hmods : ∃ o es ep, s₁.heap.get? sysModules = some o ∧ o.data = .dict es ep := by
    obtain ⟨mm, ⟨o, es, ep, e, dd, _⟩, _⟩ := (G.T.seer hq).mods
    exact ⟨o, es, ep, e, dd⟩
  obtain ⟨fd, hb, hF⟩ := F w mg fa _ KX G.T.g hmg
  have rv := vals_ints hints
  have ls : (ns.map V.int).length ≤ sizeLine := by rw [List.length_map]; exact Nat.le_trans hlen hn2
  cases hk : (K w.params).lookup a with
  | some o =>
    -- the script is one of the module's own objects
    have e := KX a o hk
    rw [hobj] at e
    cases e
    have none_ : ∀ b, (fun _ => none : Hp) b = none := fun _ => rfl
    refine call_from2 (H := fun _ => none) KX G.T.g G.T.b G.T.builtins G.T.nolimit hg hr hmods hF hb (hsp w _ a ns hlen (.inr ⟨_, vs.toArray, _, hk, rfl, rfl, rfl, ?_, by simpa using rv⟩)) (fun b u z => by cases z) (fun _ _ _ _ _ _ => rfl) (fun _ _ _ => rfl) (fun b u z => by cases z)
    rw [List.size_toArray, ← rv.length]
    exact ls
  | none =>
    refine call_from2 (H := only a { cls := .type "list", data := .seq vs.toArray } (ns.map V.int)) KX G.T.g G.T.b G.T.builtins G.T.nolimit hg hr hmods hF hb (hsp w _ a ns hlen (.inl (.inr ⟨_, only_at⟩))) (fun b u z => ?_) (fun b ob es ep e d => ?_) (fun b ob e => ?_) (fun b u z => ⟨_, _, (only_is z).2⟩)
    · obtain ⟨rfl, rfl⟩ := only_is z
      exact ⟨hobj, ls, vs, _, rv, hobj⟩
    · refine only_ne fun z => ?_
      rw [z, hobj] at e
      cases e
      cases (show Data.seq vs.toArray _ = Data.dict es ep from d)
    · refine only_ne fun z => ?_
      rw [z, hk] at e
      cases e
end Ew
namespace Ew
open PySem PySem.Spec PyProof.Rows L2
section
variable {K : PySem.W.Frag} {C : Addr} {S : List Addr} {H Hc : Hp} {f p : Addr}
theorem fr_feed (h : FeedAt H f) : Fr C [f] H := fun a m => by
  rw [List.mem_singleton.mp m]
  obtain ⟨d, t, e⟩ := h
  exact ⟨_, e, trivial⟩
/-- the feed has gone on -/
theorem sx_ext (fr : Fr C S H) (hf : f ∈ S) (e : Ext1 f H Hc) : Sx C S H Hc := ⟨fun b o nb hb w => e.1 b o (fun z => nb (by rw [z]; exact hf)) hb w, fun s m => by
  by_cases h : s = f
  · subst h
    obtain ⟨d, t, z⟩ := e.2
    exact ⟨_, z, trivial⟩
  · obtain ⟨o, z, w⟩ := fr s m
    exact ⟨o, e.1 s o h z w.nt, w⟩, e.tab⟩
theorem lf_ext (fr : Fr C S H) (hf : f ∈ S) (e : Ext1 f H Hc) : Lf K C S H S Hc := .sx fr (sx_ext fr hf e)
/-- .. and an object has come -/
theorem lf_ext1 (fr : Fr C S H) (hf : f ∈ S) (np : H p = none) (e : Ext1 f H Hc) (fc : Fr C (p :: S) Hc) : Lf K C S H (p :: S) Hc := by
  refine (Lf.own (o := .lst []) np).trans (.sx (fr.cons np trivial) ⟨fun b o nb hb w => ?_, fc, fun P q t => e.tab P q (tab_back t)⟩)
  have h1 : b ≠ p := fun z => nb (by simp [z])
  have h2 : b ≠ f := fun z => nb (by rw [z]; exact List.mem_cons_of_mem _ hf)
  rw [upd_ne h1] at hb
  exact e.1 b o h2 hb w
theorem gt2n {α β γ : Type} {k : Kd K C α} {k1 : Kd K C β} {k2 : Kd K C γ} {z : α × β × γ} {v : V} {σ : L2.St} {i j m : Nat} {Q : L2.St → Hp → Prop} (hv : (kP k (kP k1 k2)).rp S H v z) (q : ∀ v1 v2 v3, k.rp S H v1 z.1 → k1.rp S H v2 z.2.1 → k2.rp S H v3 z.2.2 → Q (((σ.set i (some v1)).set j (some v2)).set m (some v3)) H) :
    gTup K 2 (gCons (gName i) (gCons (gTup K 2 (gCons (gName j) (gCons (gName m) gNil))) gNil)) v σ H Q := by
  obtain ⟨t, v1, v2, rfl, hT, r1, t2, w1, w2, rfl, hT2, r2, r3⟩ := hv
  exact ⟨t, _, rfl, hT, rfl, v1, _, rfl, .ref t2, _, rfl, t2, _, rfl, hT2, rfl, w1, _, rfl, w2, _, rfl, rfl, rfl, q v1 w1 w2 r1 r2 r3⟩
end
abbrev sGone : Stmt := (top 35)
def spGone (K : PySem.W.Frag) : Sp := fun vs H Q _ => ∃ (f R : Addr) (us : List V), vs = [.ref f, .ref R] ∧ FeedAt H f ∧ R ≠ f ∧ SqL K H R us ∧ us.length ≤ 60 ∧
  ∀ H' p as, Ext1 f H H' → H p = none → H' p = some (.tup (as.map V.int)) → Asc us.length as → Q (.ref p) H'
section
variable {P : Program} {w : World} {K : PySem.W.Frag} {mg : Str → Option Value} {base : Heap} {C : Addr}
theorem scGone : FnScope ["feed", "readers", "at"] ["feed", "readers"] (defScope sGone) := ⟨rfl, rfl, rfl, by decide +kernel, rfl, by decide +kernel, by decide +kernel⟩
theorem ok_gone {f : Addr} {fd : FuncData} (F : Fun K "_law_gone" "_law_gone" sGone f fd) (L : Low K mg) : FnOk P w K mg base CX0 2 f fd ["feed", "readers"] (spGone K) := by
  obtain ⟨B, _, ⟨fT, fdT, FT, bT, gT⟩, _⟩ := L
  have GT : FnOk P w K mg base CX0 1 fT fdT ["feed", "many"] spTake := ok_take FT B
  refine F.ok scGone (fun vs H Q E h => ?_) (fun cdv A outer s H vs Q E hr h => ?_)
  · obtain ⟨a, R, us, rfl, _⟩ := h
    rfl
  · obtain ⟨a, R, us, rfl, hF, nR, hL, hlen, q⟩ := h
    refine ⟨_, pss_one (ps_ret (pe_callTy call_tuple_of (by rfl) B.tuple (by decide +kernel) (pa_cons
      (pe_lc (own := [("at", 2)]) (g := gName 2) (tt := tTest (tOp rEq (tCall spTake [] E0 (tCons (tVar 0) (tCons (tC (.int 5)) tNil))) (tC (.int 0)))) (te := tVar 2) rfl scGone.nd (pi_range1 rfl B.range (pa_cons (pe_callB call_len_seq (by rfl) B.len PySem.boot_len (pa_cons (pv 1) pa_nil)) pa_nil))
        (blkOk_by (own := [("at", 2)]) (N := ["feed", "readers", "at"]) (sc := defScope sGone) (by decide +kernel))
        (fun _ _ _ _ _ => pg_name (i := 2) scGone.nd rfl (.inl rfl)) (fun _ _ _ _ _ => pts_one (pt_cmpR op_eq (pe_call GT hr (by rfl) gT FT.kp bT .nil pass0 (pa_cons (pv 0) (pa_cons pe_int pa_nil))) pe_int (nomark _))) (fun _ _ _ _ _ => pv 2)) pa_nil))), ?_⟩
    refine ⟨_, rfl, R, us, rfl, .inl hL, _, rfl, by omega, by omega, fun D nD => ?_⟩
    have fD : D ≠ a := hF.ne nD
    refine lc_range (lo := 0) (n := ((us.length : Nat) : Int).toNat) (fun j H' => ∃ acc : List Int, Ext1 a H H' ∧ H' D = some (.lst (acc.map V.int)) ∧ acc.Pairwise (· < ·) ∧ ∀ x ∈ acc, 0 ≤ x ∧ x < (j : Int)) ⟨[], (Ext1.refl hF).new nD, upd_same, .nil, fun x hx => by simp at hx⟩ ?_ ?_
    · rintro j H5 hj ⟨acc, e5, hD, pa, ba⟩
      refine ⟨rfl, _, rfl, a, 5, rfl, e5.feed, by decide, by decide, fun H6 v e6 v0 v1 => ⟨rfl, _, rfl, ite2 (fun _ => ?_) (fun _ => ?_)⟩⟩
      · have hD6 := e6.1 _ _ fD hD
        have hal := asc_len pa ba (by omega)
        have hj' : j < us.length := by simpa using hj
        refine ⟨_, rfl, _, hD6, szl (by rw [List.length_map]; omega), acc ++ [0 + (j : Int)], (e5.trans e6).own nD fD, by rw [upd_same, List.map_append]; rfl, ?_, ?_⟩
        · refine List.pairwise_append.mpr ⟨pa, List.pairwise_singleton _ _, fun x hx y hy => ?_⟩
          have := ba x hx
          rw [List.mem_singleton.mp hy]
          omega
        · intro x hx
          rcases List.mem_append.mp hx with h | h
          · have := ba x h
            omega
          · rw [List.mem_singleton.mp h]
            omega
      · exact ⟨acc, e5.trans e6, e6.1 _ _ fD hD, pa, fun x hx => by have := ba x hx; omega⟩
    · rintro H5 ⟨acc, e5, hD, pa, ba⟩
      refine ⟨D, _, rfl, .inl ⟨.inl (.inl hD), fun p np => ?_⟩⟩
      exact q _ p acc (e5.new np) (e5.free np) upd_same ⟨pa, fun x hx => by have := ba x hx; omega⟩
end
section
variable {K : PySem.W.Frag} {C : Addr} {S : List Addr} {H : Hp} {f A R : Addr} {ds : List Int} {us : List V} {rs : List (Int × List Int)}
theorem bookAt_ds (h : BookAt K H A R ds us rs) (n : A ∉ S) : (kL (kI (K := K) (C := C))).rp S H (.ref A) ds := ⟨A, _, rfl, n, h.dem, paired_ints _, Nat.le_trans h.n6 (by decide)⟩
theorem bookAt_rs (h : BookAt K H A R ds us rs) (n : R ∉ S) : (kL (kR (K := K) (C := C))).rp S H (.ref R) rs := ⟨R, us, rfl, n, h.rd, rds_kR h.rds fun r hr => Nat.le_trans (h.dsOk.may hr) (by decide), Nat.le_trans h.r6 (by decide)⟩
theorem rows_kWs {W : Addr} {vs : List V} {ws : List (List Int)} (h : H W = some (.lst vs)) (p : Paired (RowT K H) vs ws) (n : W ∉ S) (l6 : ws.length ≤ 6) (hb : ∀ w ∈ ws, w.length ≤ 6) : (kWs (K := K) (C := C)).rp S H (.ref W) ws := by
  refine ⟨W, vs, rfl, n, h, ?_, by omega⟩
  clear h l6
  induction p with
  | nil => exact .nil
  | cons a t ih => exact .cons (rT_ints a (Nat.le_trans (hb _ (by simp)) (by decide))) (ih fun w hw => hb w (by simp [hw]))
theorem kWs_rows {v : V} {ws : List (List Int)} (h : (kWs (K := K) (C := C)).rp S H v ws) : ∃ W vs, v = .ref W ∧ W ∉ S ∧ H W = some (.lst vs) ∧ Paired (RowT K H) vs ws := by
  obtain ⟨W, vs, e, n, h1, p, _⟩ := h
  exact ⟨W, vs, e, n, h1, L2.Paired.mapP p fun _ _ z => let ⟨t, e, q, _⟩ := kT_ints z; ⟨t, e, q⟩⟩
theorem rowsOk_of {ws : List (List Int)} (p : Paired RowOk rs ws) : RowsOk ⟨ds, rs⟩ ws := by
  have hl := pLen p
  refine ⟨hl.symm, fun i hi => ?_⟩
  have h1 : rs[i.toNat]? = some (at_ rs i) := at_get ⟨hi.1, by show i < rs.length; rw [hl]; exact hi.2⟩
  obtain ⟨w, e, r⟩ := Paired.at1 p h1
  have e2 := at_get hi
  rw [e] at e2
  rw [← Option.some.inj e2]
  exact r
theorem rowsOk_nil (ok : DsOk ds rs) : RowsOk ⟨ds, rs⟩ (rs.map fun _ => []) := by
  refine ⟨by simp, fun i hi => ?_⟩
  rw [List.length_map] at hi
  have e : at_ (rs.map fun _ => ([] : List Int)) i = [] := by
    unfold at_
    rw [List.getD_eq_getElem?_getD, List.getElem?_map]
    cases rs[i.toNat]? <;> rfl
  rw [e]
  exact ⟨.nil, fun x hx => (nomatch hx), (ok.ok _ (at_mem hi)).1⟩
theorem RowsOk.len6 {ws : List (List Int)} (h : RowsOk ⟨ds, rs⟩ ws) (ok : DsOk ds rs) : ∀ w ∈ ws, w.length ≤ 6 ∧ ∀ x ∈ w, Dig x := fun w hw => by
  obtain ⟨j, hj, e⟩ := List.mem_iff_getElem.mp hw
  have hl : ws.length = rs.length := h.1
  have r := h.2 (j : Int) ⟨by omega, by omega⟩
  have e2 : at_ ws (j : Int) = w := by
    unfold at_
    rw [Int.toNat_natCast, List.getD_eq_getElem?_getD, List.getElem?_eq_getElem hj]
    exact e
  rw [e2] at r
  have m := at_mem (l := rs) (i := (j : Int)) ⟨by omega, by omega⟩
  have rd := ok.ok _ m
  have r1 : (w.length : Int) ≤ (at_ rs (j : Int)).1 := r.2.2
  have := rd.2.1
  refine ⟨by omega, fun x hx => ?_⟩
  have := rd.2.2.2 x (r.2.1 x hx)
  have := ok.n6
  unfold Dig
  omega
end
section
variable {K : PySem.W.Frag} {C : Addr} {α : Type} {k : Kd K C α} {S : List Addr} {H : Hp} {σ : L2.St} {ta tb : TE} {x : α} {D : Ends} {u : TS} {i j : Nat}
theorem q_parR (h : EvN k S H ta σ x) (q : ∀ p1 H1, H p1 = none → Same H H1 → k.rp S H1 (.ref p1) x → tb σ H1 (fun w H2 => ∃ v w', [V.ref p1, w] = [v, w'] ∧ u D ((σ.set i (some v)).set j (some w')) H2)) : tSeq (tPar i j (tCons ta (tCons tb tNil))) u D σ H := h.use fun p1 H1 n s r => q p1 H1 n s r
end
section
variable {K : PySem.W.Frag} {C : Addr} {α β : Type} {k : Kd K C α} {k1 : Kd K C β} {S : List Addr} {H : Hp} {σ : L2.St} {te ta tb tc : TE} {x : α} {y : β} {f : Addr} {i j m : Nat} {Φ : α → Prop} {D : Ends} {u : TS}
def EvF (f : Addr) (k : Kd K C α) (H : Hp) (t : TE) (σ : L2.St) (Φ : α → Prop) : Prop := ∀ Q : VK, (∀ v H2 x, Ext1 f H H2 → k.rp [f] H2 v x → Φ x → Q v H2) → t σ H Q
theorem evf_of (hf : FeedAt H f) (h : Ev k [f] H te σ x) : EvF f k H te σ (fun y => y = x) := fun Q q => h.use fun v H2 s r => q v H2 x (Ext1.same hf s) r rfl
theorem evf_take {n : Int} (e : σ[i]? = some (some (.ref f))) (hf : FeedAt H f) (h : Ev (K := K) (C := C) kI [f] H tb σ n) (h0 : 0 < n) (h1 : n < 1000) : EvF (K := K) (C := C) f kI H (tCall spTake [] C8.E0 (tCons (tVar i) (tCons tb tNil))) σ fun x => 0 ≤ x ∧ x < n := fun Q q => ⟨_, e, h.use fun v H2 s r => by
  cases (show v = .int n from r)
  exact ⟨f, n, rfl, (Ext1.same hf s).feed, h0, h1, fun H3 x e3 x0 x1 => q _ H3 x ((Ext1.same hf s).trans e3) rfl ⟨x0, x1⟩⟩⟩
theorem paired_mem {R : V → α → Prop} {vs : List V} {l : List α} {v : V} (p : Paired R vs l) (h : v ∈ vs) : ∃ x ∈ l, R v x := by
  induction p with
  | nil => cases h
  | cons a t ih =>
    rcases List.mem_cons.mp h with rfl | h
    · exact ⟨_, by simp, a⟩
    · obtain ⟨x, m, r⟩ := ih h
      exact ⟨x, by simp [m], r⟩
theorem evf_pick {l : List α} (e : σ[i]? = some (some (.ref f))) (hf : FeedAt H f) (h : Ev (kL k) [f] H tb σ l) (hne : l ≠ []) (hl : l.length < 1000) : EvF f k H (tCall (spPick K) [] C8.E0 (tCons (tVar i) (tCons tb tNil))) σ fun x => x ∈ l := fun Q q => ⟨_, e, h.use fun v H2 s r => by
  obtain ⟨a, vs, rfl, na, hA, p, _⟩ := r
  have hp := pLen p
  have e2 := Ext1.same hf s
  refine ⟨f, a, vs, rfl, e2.feed, .inl (.inl hA), fun z => na (by simp [z]), by rw [hp]; exact List.length_pos_iff.mpr hne, by omega, fun H3 v e3 hv => ?_⟩
  obtain ⟨x, m, rx⟩ := paired_mem p hv
  exact q v H3 x (e2.trans e3) ((lf_ext (fr_feed e2.feed) (by simp) e3).go k v x rx) m⟩
theorem kR_rdLs {v : V} {rs : List (Int × List Int)} (h : (kL (kR (K := K) (C := C))).rp [f] H v rs) : ∃ R us, v = .ref R ∧ R ≠ f ∧ SqL K H R us ∧ us.length = rs.length ∧ RdL K H R rs := by
  obtain ⟨R, us, e, n, h1, p, _⟩ := h
  exact ⟨R, us, e, fun z => n (by simp [z]), .inl (.inl h1), pLen p, us, .inl (.inl h1), kR_rds p⟩
theorem evf_rows {ds : List Int} {rs : List (Int × List Int)} {Ψ : List Int → Prop} (e : σ[i]? = some (some (.ref f))) (hf : FeedAt H f) (e2 : σ[j]? = some (some (.ref m))) (hR : (kL (kR (K := K) (C := C))).rp [f] H (.ref m) rs) (ok : DsOk ds rs) (h : EvF (K := K) (C := C) f (kT kI) H tc σ Ψ) :
    EvF (K := K) (C := C) f kWs H (tCall (spRows K) [] C8.E0 (tCons (tVar i) (tCons (tVar j) (tCons tc tNil)))) σ fun ws => RowsOk ⟨ds, rs⟩ ws ∧ ∃ as, Ψ as ∧ ∀ r : Int, 0 ≤ r → r < ws.length → r ∈ as → at_ ws r = [] := fun Q q => ⟨_, e, _, e2, h _ fun v H2 as x2 r2 ψ => by
  obtain ⟨ab, rfl, hab, _⟩ := kT_ints r2
  have hR2 := (lf_ext (fr_feed hf) (by simp) x2).go _ _ _ hR
  obtain ⟨R, us, e3, nR, hsq, hul, hrd⟩ := kR_rdLs hR2
  cases e3
  have r6 := ok.r6
  have n6 := ok.n6
  refine ⟨f, m, ab, rs, as, rfl, x2.feed, nR, hrd, rdsOk_of ok.ok (by omega) (by omega), by omega, hab, fun H3 W vw ws x3 nW hW pW ro hz => ?_⟩
  have rok := rowsOk_of (ds := ds) ro
  have l6 : ws.length ≤ 6 := by have h : ws.length = rs.length := rok.1; omega
  have fW : W ≠ f := x2.feed.ne nW
  refine q _ H3 ws (x2.trans x3) (rows_kWs hW pW (by simp [fW]) l6 fun w hw => (rok.len6 ok w hw).1) ⟨rok, as, ψ, fun r r0 r1 hm => ?_⟩
  have h1 := at_get (l := ws) (i := r) ⟨r0, r1⟩
  exact hz r.toNat _ h1 (by rw [Int.toNat_of_nonneg r0]; exact hm)⟩
theorem evf_gone {rs : List (Int × List Int)} (e : σ[i]? = some (some (.ref f))) (hf : FeedAt H f) (e2 : σ[j]? = some (some (.ref m))) (hR : (kL (kR (K := K) (C := C))).rp [f] H (.ref m) rs) (r6 : rs.length ≤ 6) :
    EvF (K := K) (C := C) f (kT kI) H (tCall (spGone K) [] C8.E0 (tCons (tVar i) (tCons (tVar j) tNil))) σ fun as => Asc rs.length as := fun Q q => ⟨_, e, _, e2, by
  obtain ⟨R, us, e3, nR, hsq, hul, hrd⟩ := kR_rdLs hR
  cases e3
  refine ⟨f, m, us, rfl, hf, nR, hsq, by omega, fun H5 ab as e5 n5 h5 asc5 => ?_⟩
  rw [hul] at asc5
  exact q _ H5 as e5 ⟨ab, _, rfl, .inl (.inl h5), paired_ints _, by have := asc5.len (by omega); omega⟩ asc5⟩
theorem q_setF (h : EvF f k H te σ Φ) (q : ∀ v H2 x, Ext1 f H H2 → k.rp [f] H2 v x → Φ x → u D (σ.set i (some v)) H2) : tSeq (tAsg te (gName i)) u D σ H := h _ q
/-- demands, readers = _law_book(feed, .., ..) -/
theorem q_book {mw mr : Int} {n2 : Nat} (hn : n2 = 2) (e : σ[i]? = some (some (.ref f))) (hf : FeedAt H f) (h1 : 1 ≤ mw) (h2 : mw ≤ 6) (h3 : 0 ≤ mr) (h4 : mr ≤ 6)
    (q : ∀ A R H2 ds rs, Ext1 f H H2 → (kL (kI (K := K) (C := C))).rp [f] H2 (.ref A) ds → (kL (kR (K := K) (C := C))).rp [f] H2 (.ref R) rs → DsOk ds rs → (ds.length : Int) ≤ mw → (rs.length : Int) ≤ mr → u D ((σ.set j (some (.ref A))).set m (some (.ref R))) H2) :
    tSeq (tAsg (tCall (spBook K) [] C8.E0 (tCons (tVar i) (tCons (tC (.int mw)) (tCons (tC (.int mr)) tNil)))) (gUnl K n2 (gCons (gName j) (gCons (gName m) gNil)))) u D σ H := by
  subst hn
  exact ⟨_, e, f, mw, mr, rfl, hf, h1, h2, h3, h4, fun H3 p A R ds us rs e3 np nA nR hp bk npA npR l1 l2 => by
  refine ⟨p, _, rfl, .inl (.inl hp), rfl, _, _, rfl, _, _, rfl, rfl, ?_⟩
  have fA : A ≠ f := hf.ne nA
  have fR : R ≠ f := hf.ne nR
  exact q A R H3 ds rs e3 (bookAt_ds bk (by simp [fA])) (bookAt_rs bk (by simp [fR])) bk.dsOk l1 l2⟩
/-- feed = _law_feed(script, k) -/
theorem q_feed {a : Addr} {ns : List Int} {kk : Int} (e : σ[i]? = some (some (.ref a))) (e2 : σ[j]? = some (some (.int kk))) (hS : SqL K H a (ns.map V.int)) (hl : ns.length ≤ 63) (h0 : 0 ≤ kk) (h1 : kk < 10) (q : ∀ f H2, Same H H2 → H f = none → FeedAt H2 f → u D (σ.set m (some (.ref f))) H2) :
    tSeq (tAsg (tCall (spFeed K) [] C8.E0 (tCons (tVar i) (tCons (tVar j) tNil))) (gName m)) u D σ H := ⟨_, e, _, e2, a, ns, kk, rfl, hS, hl, h0, h1, fun H2 f s nf hf => q f H2 s nf hf⟩
theorem ev_lenS {a : Addr} {xs : List V} (e : σ[i]? = some (some (.ref a))) (hS : SqL K H a xs) : Ev (K := K) (C := C) kI S H (tCB (rLen K) (tCons (tVar i) tNil)) σ (xs.length : Nat) := fun H1 s Q q => ⟨_, e, a, xs, rfl, .inl (s.seq hS), q _ H1 (Same.refl _) rfl⟩
end
end Ew
namespace Ew
open PySem PySem.Spec PyProof.Rows L2
section
variable {P : Program} {w : World} {K : PySem.W.Frag} {mg : Str → Option Value} {base : Heap} {C : Addr}
abbrev sIsSet : Stmt := (top 5)
def sp_is_set_of_works (K : PySem.W.Frag) (C : Addr) : Sp := spD (K := K) (C := C) (aC (kT kI) (aC kI aN)) kB (fun (l , n , _) => True) fun (l, n, _) => setB n l
theorem scIsSet : FnScope ["value", "many"] ["value", "many"] (defScope sIsSet) := ⟨rfl, rfl, rfl, by decide +kernel, rfl, by decide +kernel, by decide +kernel⟩
theorem c_is_set_of_works (D : DefAt K mg "is_set_of_works" sIsSet ["value", "many"]) (B : Bi mg) (T : BkC P w K mg base C)  (c_is_ascending : C8.Cal P w K mg base 2 "is_ascending" (spIsAsc K) []) : C8.Cal P w K mg base 3 "is_set_of_works" (sp_is_set_of_works K C) [] := by
  refine calD D scIsSet rfl fun f cdv A outer s H vs Q E S a hr fr ha hp q => ?_
  obtain ⟨l, n, _⟩ := a
  obtain ⟨w_value, _, rfl, h_value, w_many, _, rfl, h_many, e⟩ := ha
  cases (show _ = [] from e)
  have h_value : ((kT kI) : Kd K C _).rp S H w_value l := h_value
  have h_many : (kI : Kd K C _).rp S H w_many n := h_many
  have n_value := kT_len h_value
  have q : ∀ v H', Same H H' → (kB : Kd K C _).rp S H' v (setB n l) → Q v H' := q

  refine ⟨_, (pss_one (ps_ret (pe_and (C8.pe_c c_is_ascending hr (by decide) (by rfl) (pa_cons (pv 0) (pa_cons (pv 1) pa_nil))) (pe_one (pe_cmpR op_gt (pe_callB call_len_seq (by rfl) B.len PySem.boot_len (pa_cons (pv 0) pa_nil)) pe_int (nomark _)))))), ?_⟩
  try dsimp only [cxOf, Cx.nox, Cx.wish]
  exact s_ret (Ev.to (ev_andV (ev_isAsc (ev_var rfl h_value Lf.refl) (ev_var rfl h_many Lf.refl)) (fun _ => (ev_B2 (ev_len (ev_var rfl h_value Lf.refl) IsSq.t) ev_int))) rfl) fun v H' s' r => q v H' s' r
end
end Ew
namespace Ew
open PySem PySem.Spec PyProof.Rows L2
def fs (L : List (Int × Int)) : Int := (L.map fun p => p.1).sum
end Ew
namespace Ew
open PySem PySem.Spec PyProof.Rows L2
inductive At where
  | non
  | bl (b : Bool)
  | int (i : Int)
  | str (s : Str)
  | emL
  | emD
  deriving DecidableEq
inductive Md where
  | at (a : At)
  | tup (l : List At)
  | lst (l : List At)
inductive Tp where
  | md (m : Md)
  | tup (l : List Md)
  | lst (l : List Md)
def At.py : At → PyData
  | .non => .none
  | .bl b => .bool b
  | .int i => .int i
  | .str s => .str s
  | .emL => .list []
  | .emD => .dict []
def Md.py : Md → PyData
  | .at a => a.py
  | .tup l => .tuple (l.map At.py)
  | .lst l => .list (l.map At.py)
def Tp.py : Tp → PyData
  | .md m => m.py
  | .tup l => .tuple (l.map Md.py)
  | .lst l => .list (l.map Md.py)
section
variable {K : PySem.W.Frag} {C : Addr}
def kAt : Kd K C At where
  rp S H v x := match x with
    | .non => v = .non
    | .bl b => v = .bl b
    | .int i => v = .int i
    | .str s => v = .str s
    | .emL => ∃ p, v = .ref p ∧ p ∉ S ∧ H p = some (.lst [])
    | .emD => ∃ p, v = .ref p ∧ p ∉ S ∧ H p = some (.dK [])
  same {S H H' v x} s h := by
    cases x with
    | emL => obtain ⟨p, e, n, q⟩ := h; exact ⟨p, e, n, s.go _ _ q trivial⟩
    | emD => obtain ⟨p, e, n, q⟩ := h; exact ⟨p, e, n, s.go _ _ q trivial⟩
    | non => exact h
    | bl b => exact h
    | int i => exact h
    | str s => exact h
  sx {S H H' v x} f s h := by
    cases x with
    | emL => obtain ⟨p, e, n, q⟩ := h; exact ⟨p, e, n, s.old _ _ n q⟩
    | emD => obtain ⟨p, e, n, q⟩ := h; exact ⟨p, e, n, s.old _ _ n q⟩
    | non => exact h
    | bl b => exact h
    | int i => exact h
    | str s => exact h
  new {S H p v x} hn h := by
    cases x with
    | emL =>
      obtain ⟨a, e, n, q⟩ := h
      refine ⟨a, e, fun z => ?_, q⟩
      rcases List.mem_cons.mp z with rfl | z
      · rw [hn] at q; cases q
      · exact n z
    | emD =>
      obtain ⟨a, e, n, q⟩ := h
      refine ⟨a, e, fun z => ?_, q⟩
      rcases List.mem_cons.mp z with rfl | z
      · rw [hn] at q; cases q
      · exact n z
    | non => exact h
    | bl b => exact h
    | int i => exact h
    | str s => exact h
  less {S T H v x} m h := by
    cases x with
    | emL => obtain ⟨a, e, n, q⟩ := h; exact ⟨a, e, fun z => n (m _ z), q⟩
    | emD => obtain ⟨a, e, n, q⟩ := h; exact ⟨a, e, fun z => n (m _ z), q⟩
    | non => exact h
    | bl b => exact h
    | int i => exact h
    | str s => exact h
def kMd : Kd K C Md where
  rp S H v x := match x with
    | .at a => (kAt (K := K) (C := C)).rp S H v a
    | .tup l => (kT (kAt (K := K) (C := C))).rp S H v l
    | .lst l => (kL (kAt (K := K) (C := C))).rp S H v l
  same {S H H' v x} s h := by cases x with
    | «at» a => exact kAt.same s h
    | tup l => exact (kT kAt).same s h
    | lst l => exact (kL kAt).same s h
  sx {S H H' v x} f s h := by cases x with
    | «at» a => exact kAt.sx f s h
    | tup l => exact (kT kAt).sx f s h
    | lst l => exact (kL kAt).sx f s h
  new {S H p v x} hn h := by cases x with
    | «at» a => exact kAt.new hn h
    | tup l => exact (kT kAt).new hn h
    | lst l => exact (kL kAt).new hn h
  less {S T H v x} m h := by cases x with
    | «at» a => exact kAt.less m h
    | tup l => exact (kT kAt).less m h
    | lst l => exact (kL kAt).less m h
def kTp : Kd K C Tp where
  rp S H v x := match x with
    | .md a => (kMd (K := K) (C := C)).rp S H v a
    | .tup l => (kT (kMd (K := K) (C := C))).rp S H v l
    | .lst l => (kL (kMd (K := K) (C := C))).rp S H v l
  same {S H H' v x} s h := by cases x with
    | md a => exact kMd.same s h
    | tup l => exact (kT kMd).same s h
    | lst l => exact (kL kMd).same s h
  sx {S H H' v x} f s h := by cases x with
    | md a => exact kMd.sx f s h
    | tup l => exact (kT kMd).sx f s h
    | lst l => exact (kL kMd).sx f s h
  new {S H p v x} hn h := by cases x with
    | md a => exact kMd.new hn h
    | tup l => exact (kT kMd).new hn h
    | lst l => exact (kL kMd).new hn h
  less {S T H v x} m h := by cases x with
    | md a => exact kMd.less m h
    | tup l => exact (kT kMd).less m h
    | lst l => exact (kL kMd).less m h
variable {S : List Addr} {H : Hp} {v : V}
abbrev PT : Addr → Prop := fun _ => True
theorem dq_at {a : At} (h : (kAt (K := K) (C := C)).rp S H v a) : Dq K PT H v a.py := by
  cases a with
  | non => cases (show v = .non from h); exact .non
  | bl b => cases (show v = .bl b from h); exact .bl b
  | int i => cases (show v = .int i from h); exact .int i
  | str s => cases (show v = .str s from h); exact .str s
  | emL => obtain ⟨p, rfl, _, q⟩ := h; exact .lst trivial q .nil
  | emD => obtain ⟨p, rfl, _, q⟩ := h; exact .dic q
theorem dqA_of {α : Type} {R : V → α → Prop} {g : α → PyData} (f : ∀ v x, R v x → Dq K PT H v (g x)) : ∀ {us : List V} {l : List α}, Paired R us l → DqA K PT H us (l.map g)
  | _, _, .nil => .nil
  | _, _, .cons a t => .cons (f _ _ a) (dqA_of f t)
theorem dq_md {m : Md} (h : (kMd (K := K) (C := C)).rp S H v m) : Dq K PT H v m.py := by
  cases m with
  | «at» a => exact dq_at (C := C) (S := S) h
  | tup l => obtain ⟨t, us, rfl, hT, hP, _⟩ := h; exact .tup hT (dqA_of (fun _ _ r => dq_at (C := C) (S := S) r) hP)
  | lst l => obtain ⟨t, us, rfl, _, hT, hP, _⟩ := h; exact .lst trivial hT (dqA_of (fun _ _ r => dq_at (C := C) (S := S) r) hP)
theorem dq_tp {m : Tp} (h : (kTp (K := K) (C := C)).rp S H v m) : Dq K PT H v m.py := by
  cases m with
  | md a => exact dq_md (C := C) (S := S) h
  | tup l => obtain ⟨t, us, rfl, hT, hP, _⟩ := h; exact .tup hT (dqA_of (fun _ _ r => dq_md (C := C) (S := S) r) hP)
  | lst l => obtain ⟨t, us, rfl, _, hT, hP, _⟩ := h; exact .lst trivial hT (dqA_of (fun _ _ r => dq_md (C := C) (S := S) r) hP)
def At.asInt? : At → Option Int
  | .int i => some i
  | _ => none
def atInts? : List At → Option (List Int)
  | [] => some []
  | .int i :: r => (atInts? r).map (i :: ·)
  | _ :: _ => none
theorem atInts_of : ∀ {l : List At} {xs : List Int}, atInts? l = some xs → l = xs.map At.int
  | [], xs, h => by cases h; rfl
  | .int i :: r, xs, h => by
    cases e : atInts? r with
    | none => rw [show atInts? (.int i :: r) = (atInts? r).map (i :: ·) from rfl, e] at h; cases h
    | some ys =>
      rw [show atInts? (.int i :: r) = (atInts? r).map (i :: ·) from rfl, e] at h
      cases h
      rw [List.map_cons, atInts_of e]
  | .non :: r, xs, h => by cases h
  | .bl b :: r, xs, h => by cases h
  | .str b :: r, xs, h => by cases h
  | .emL :: r, xs, h => by cases h
  | .emD :: r, xs, h => by cases h
def Md.ints? : Md → Option (List Int)
  | .tup l => Ew.atInts? l
  | _ => none
def Md.isT : Md → Bool
  | .tup _ => true
  | _ => false
theorem kT_at {l : List Int} (h : (kT (kI (K := K) (C := C))).rp S H v l) : (kT (kAt (K := K) (C := C))).rp S H v (l.map At.int) := by
  obtain ⟨t, us, rfl, hT, hP, hl⟩ := h
  refine ⟨t, us, rfl, hT, ?_, by rw [List.length_map]; exact hl⟩
  clear hT hl
  induction hP with
  | nil => exact .nil
  | cons a t ih => exact .cons a ih
theorem kT_ofAt {l : List At} {xs : List Int} (e : atInts? l = some xs) (h : (kT (kAt (K := K) (C := C))).rp S H v l) : (kT (kI (K := K) (C := C))).rp S H v xs := by
  rw [atInts_of e] at h
  obtain ⟨t, us, rfl, hT, hP, hl⟩ := h
  rw [List.length_map] at hl
  refine ⟨t, us, rfl, hT, ?_, hl⟩
  clear hT hl e
  induction xs generalizing us with
  | nil => cases hP; exact .nil
  | cons a r ih => cases hP with | cons h1 h2 => exact .cons h1 (ih _ h2)
theorem kMd_ints {m : Md} {xs : List Int} (e : m.ints? = some xs) (h : (kMd (K := K) (C := C)).rp S H v m) : (kT (kI (K := K) (C := C))).rp S H v xs := by
  cases m with
  | tup l => exact kT_ofAt e h
  | «at» a => cases e
  | lst l => cases e
/-- the program's look at items, at such -/
theorem ascV_at {n : Int} : ∀ {us : List V} {l : List At} {lo : Int}, Paired ((kAt (K := K) (C := C)).rp S H) us l → ascV n lo us = (match atInts? l with
    | some xs => ascI n lo xs
    | none => false) ∨ (atInts? l = none ∧ ascV n lo us = false)
  | _, _, lo, .nil => .inl rfl
  | u :: us, a :: l, lo, .cons h t => by
    cases a with
    | int i =>
      cases (show u = .int i from h)
      have ih := ascV_at (n := n) (lo := i) t
      cases e : atInts? l with
      | some xs =>
        rw [e] at ih
        refine .inl ?_
        show (decide (lo < i) && decide (i < n) && ascV n i us) = _
        rw [show atInts? (.int i :: l) = (atInts? l).map (i :: ·) from rfl, e]
        rcases ih with ih | ⟨z, _⟩
        · rw [ih]; rfl
        · cases z
      | none =>
        refine .inr ⟨by rw [show atInts? (.int i :: l) = (atInts? l).map (i :: ·) from rfl, e]; rfl, ?_⟩
        rw [e] at ih
        have ih : ascV n i us = false := ih.elim id (·.2)
        show (decide (lo < i) && decide (i < n) && ascV n i us) = _
        rw [ih, Bool.and_false]
    | non => cases (show u = .non from h); exact .inr ⟨rfl, rfl⟩
    | bl b => cases (show u = .bl b from h); exact .inr ⟨rfl, rfl⟩
    | str b => cases (show u = .str b from h); exact .inr ⟨rfl, rfl⟩
    | emL => obtain ⟨p, rfl, _⟩ := h; exact .inr ⟨rfl, rfl⟩
    | emD => obtain ⟨p, rfl, _⟩ := h; exact .inr ⟨rfl, rfl⟩
def ascM (n : Int) (m : Md) : Bool := match m.ints? with
  | some xs => ascI n (-1) xs
  | none => false
def setM (n : Int) (m : Md) : Bool := match m.ints? with
  | some xs => setB n xs
  | none => false
end
end Ew
namespace Ew
open PySem PySem.Spec PyProof.Rows L2
theorem set_law {n : Nat} {l : List Int} (h : l ∈ allSets n) : setL n l = true ∧ l.length ≤ n := by
  obtain ⟨h1, h2, h3⟩ := allSets_mem.mp h
  have hp : 0 < l.length := List.length_pos_iff.mpr h1
  refine ⟨?_, nd_len (nodup_asc h2) h3⟩
  unfold setL
  rw [decide_eq_true h1, decide_eq_true h2, decide_eq_true (h3 _ (at_mem ⟨by omega, by omega⟩)).1, decide_eq_true (h3 _ (at_mem ⟨by omega, by omega⟩)).2]
  rfl
end Ew
namespace Ew
open PySem PySem.Spec PyProof.Rows L2
def setsOne (ts one : List Int) : List (List Int) := (ts.filter fun y => decide (one = []) || decide (at_ one ((one.length : Int) - 1) < y)).map fun y => one ++ [y]
def lastF (ts : List Int) : Nat → List (List Int)
  | 0 => [[]]
  | k + 1 => (lastF ts k).flatMap (setsOne ts)
def lsetsF (ts : List Int) : Nat → List (List Int)
  | 0 => [[]]
  | k + 1 => lsetsF ts k ++ lastF ts (k + 1)
def lsets (ts : List Int) : List (List Int) := lsetsF ts ts.length
theorem lt_ne {l : List Int} (h : decide (l = []) = false) : 0 < l.length := List.length_pos_iff.mpr (of_decide_eq_false h)
theorem one_bd (ts one : List Int) : (setsOne ts one).length ≤ ts.length := by
  unfold setsOne
  rw [List.length_map]
  exact List.length_filter_le _ _
theorem flat_bd {ts : List Int} : ∀ l : List (List Int), (l.flatMap (setsOne ts)).length ≤ l.length * ts.length
  | [] => by simp
  | a :: l => by
    rw [List.flatMap_cons, List.length_append, List.length_cons, Nat.succ_mul]
    have := flat_bd (ts := ts) l
    have := one_bd ts a
    omega
theorem last_bd {ts : List Int} (h : ts.length ≤ 6) : ∀ k, (lastF ts k).length ≤ 6 ^ k
  | 0 => Nat.le_refl _
  | k + 1 => by
    have h1 := last_bd h k
    have h2 := flat_bd (ts := ts) (lastF ts k)
    have h3 : (lastF ts k).length * ts.length ≤ 6 ^ k * 6 := Nat.mul_le_mul h1 h
    rw [Nat.pow_succ]
    exact Nat.le_trans h2 h3
theorem found_bd {ts : List Int} (h : ts.length ≤ 6) : ∀ k, (lsetsF ts k).length ≤ 7 ^ k
  | 0 => Nat.le_refl _
  | k + 1 => by
    have h1 := found_bd h k
    have h2 := last_bd h (k + 1)
    have h3 : 6 ^ k ≤ 7 ^ k := Nat.pow_le_pow_left (by decide) k
    rw [lsetsF, List.length_append, Nat.pow_succ]
    rw [Nat.pow_succ] at h2
    omega
theorem last_cap {ts : List Int} (h : ts.length ≤ 6) {i : Nat} (hi : i < 6) : (lastF ts i).length * 6 ≤ 46656 ∧ (lastF ts (i + 1)).length ≤ 46656 := by
  have h1 := last_bd h i
  have h2 := last_bd h (i + 1)
  have h3 : 6 ^ i ≤ 6 ^ 5 := Nat.pow_le_pow_right (by decide) (by omega)
  have h4 : 6 ^ (i + 1) ≤ 6 ^ 6 := Nat.pow_le_pow_right (by decide) (by omega)
  have e5 : (6 : Nat) ^ 5 = 7776 := by decide
  have e6 : (6 : Nat) ^ 6 = 46656 := by decide
  omega
theorem found_cap {ts : List Int} (h : ts.length ≤ 6) {i : Nat} (hi : i ≤ 6) : (lsetsF ts i).length ≤ 117649 := by
  have h1 := found_bd h i
  have h3 : 7 ^ i ≤ 7 ^ 6 := Nat.pow_le_pow_right (by decide) hi
  have e6 : (7 : Nat) ^ 6 = 117649 := by decide
  omega
theorem take_bd {ts : List Int} (h : ts.length ≤ 6) (i j : Nat) : (((lastF ts i).take j).flatMap (setsOne ts)).length ≤ (lastF ts i).length * 6 := by
  have h1 := flat_bd (ts := ts) ((lastF ts i).take j)
  have h2 : ((lastF ts i).take j).length ≤ (lastF ts i).length := by rw [List.length_take]; omega
  have h3 := Nat.mul_le_mul h2 h
  omega
theorem last_at {l : List Int} {x : Int} : at_ (l ++ [x]) (((l ++ [x]).length : Int) - 1) = x := by
  rw [List.length_append, List.length_singleton, show (((l.length + 1 : Nat) : Int) - 1) = ((l.length : Nat) : Int) by omega]
  exact at_eq (by simp)
theorem snoc_of {l : List Int} {k : Nat} (h : l.length = k + 1) : ∃ m x, l = m ++ [x] ∧ m.length = k := by
  refine ⟨l.dropLast, l.getLast (fun e => by rw [e] at h; cases h), (List.dropLast_concat_getLast _).symm, ?_⟩
  rw [List.length_dropLast]
  omega
theorem up_snoc {m : List Int} {x : Int} : (m ++ [x]).Pairwise (· < ·) ↔ m.Pairwise (· < ·) ∧ (m = [] ∨ at_ m ((m.length : Int) - 1) < x) := by
  rw [List.pairwise_append]
  constructor
  · rintro ⟨h1, _, h3⟩
    refine ⟨h1, ?_⟩
    by_cases e : m = []
    · exact .inl e
    · have hp : 0 < m.length := List.length_pos_iff.mpr e
      exact .inr (h3 _ (at_mem (l := m) ⟨by omega, by omega⟩) x (by simp))
  · rintro ⟨h1, h2⟩
    refine ⟨h1, List.pairwise_singleton _ _, fun a ha y hy => ?_⟩
    rw [List.mem_singleton.mp hy]
    rcases h2 with rfl | h2
    · cases ha
    · obtain ⟨k, hk⟩ : ∃ k, m.length = k + 1 := ⟨m.length - 1, by have := List.length_pos_of_mem ha; omega⟩
      obtain ⟨n, z, rfl, _⟩ := snoc_of hk
      rw [last_at] at h2
      rcases List.mem_append.mp ha with ha | ha
      · have := (List.pairwise_append.mp h1).2.2 a ha z (by simp)
        omega
      · rw [List.mem_singleton.mp ha]
        exact h2
theorem last_mem {ts : List Int} : ∀ {k : Nat} {l : List Int}, l ∈ lastF ts k ↔ l.length = k ∧ l.Pairwise (· < ·) ∧ ∀ x ∈ l, x ∈ ts
  | 0, l => by
    rw [lastF, List.mem_singleton]
    constructor
    · rintro rfl
      exact ⟨rfl, .nil, fun x hx => nomatch hx⟩
    · rintro ⟨h, _⟩
      exact List.length_eq_zero_iff.mp h
  | k + 1, l => by
    rw [lastF, List.mem_flatMap]
    constructor
    · rintro ⟨one, h1, h2⟩
      obtain ⟨a1, a2, a3⟩ := last_mem.mp h1
      unfold setsOne at h2
      obtain ⟨y, hy, rfl⟩ := List.mem_map.mp h2
      obtain ⟨y1, y2⟩ := List.mem_filter.mp hy
      rw [Bool.or_eq_true_iff, decide_eq_true_eq, decide_eq_true_eq] at y2
      refine ⟨by rw [List.length_append, a1]; rfl, up_snoc.mpr ⟨a2, y2⟩, fun x hx => ?_⟩
      rcases List.mem_append.mp hx with hx | hx
      · exact a3 x hx
      · rw [List.mem_singleton.mp hx]
        exact y1
    · rintro ⟨h1, h2, h3⟩
      obtain ⟨m, x, rfl, hm⟩ := snoc_of h1
      obtain ⟨u1, u2⟩ := up_snoc.mp h2
      refine ⟨m, last_mem.mpr ⟨hm, u1, fun y hy => h3 y (by simp [hy])⟩, ?_⟩
      unfold setsOne
      refine List.mem_map.mpr ⟨x, List.mem_filter.mpr ⟨h3 x (by simp), ?_⟩, rfl⟩
      rw [Bool.or_eq_true_iff, decide_eq_true_eq, decide_eq_true_eq]
      exact u2
theorem lsetsF_mem {ts : List Int} : ∀ {k : Nat} {l : List Int}, l ∈ lsetsF ts k ↔ l.length ≤ k ∧ l.Pairwise (· < ·) ∧ ∀ x ∈ l, x ∈ ts
  | 0, l => by
    show l ∈ lastF ts 0 ↔ _
    rw [last_mem]
    constructor
    · rintro ⟨h, r⟩; exact ⟨by omega, r⟩
    · rintro ⟨h, r⟩; exact ⟨by omega, r⟩
  | k + 1, l => by
    rw [lsetsF, List.mem_append, lsetsF_mem, last_mem]
    constructor
    · rintro (⟨h, r⟩ | ⟨h, r⟩)
      · exact ⟨by omega, r⟩
      · exact ⟨by omega, r⟩
    · rintro ⟨h, r⟩
      rcases Nat.lt_or_ge l.length (k + 1) with g | g
      · exact .inl ⟨by omega, r⟩
      · exact .inr ⟨by omega, r⟩
theorem lsets_mem {ts l : List Int} : l ∈ lsets ts ↔ l.Pairwise (· < ·) ∧ ∀ x ∈ l, x ∈ ts := by
  unfold lsets
  rw [lsetsF_mem]
  exact ⟨fun h => h.2, fun h => ⟨sub_len (nodup_asc h.1) h.2, h⟩⟩
section
variable {P : Program} {w : World} {K : PySem.W.Frag} {mg : Str → Option Value} {base : Heap} {C : Addr}
abbrev sLSets : Stmt := (top 37)
def sp__law_sets (K : PySem.W.Frag) (C : Addr) : Sp := spN (K := K) (C := C) (aC (kL kI) aN) (kL (kT kI)) (fun a => a.1.length ≤ 6) fun a => lsets a.1
theorem scLSets : FnScope ["things", "found", "last", "turn", "new", "one", "thing"] ["things"] (defScope sLSets) := ⟨rfl, rfl, rfl, by decide +kernel, rfl, by decide +kernel, by decide +kernel⟩
set_option maxHeartbeats 0 in
theorem c__law_sets (D : DefAt K mg "_law_sets" sLSets ["things"]) (B : Bi mg) : C8.Cal P w K mg base 1 "_law_sets" (sp__law_sets K C) [] := by
  refine calN D scLSets rfl fun f cdv A outer s H vs Q E S a hr fr ha hp q => ?_
  obtain ⟨ts, _⟩ := a
  obtain ⟨w_things, _, rfl, h_things, e⟩ := ha
  cases (show _ = [] from e)
  have hp : ts.length ≤ 6 := hp
  have h_things : (kL kI : Kd K C _).rp S H w_things ts := h_things
  have q : ∀ p H', H p = none → Same H H' → (kL (kT kI) : Kd K C _).rp S H' (.ref p) (lsets ts) → Q (.ref p) H' := q
  have hl6 : ts.length ≤ 1000000 := by omega
  refine ⟨_, (pss_cons (ps_par (i := 1) (j := 2) (by rfl) scLSets.nd rfl rfl (by decide) rfl rfl (pa_cons (pe_lst (pa_cons (pe_tup pa_nil) pa_nil)) (pa_cons (pe_lst (pa_cons (pe_tup pa_nil) pa_nil)) pa_nil)) (by rfl))
 (pss_cons (ps_for PassesOwn.never rfl (pi_range1 rfl B.range (pa_cons (pe_callB call_len_seq (by rfl) B.len PySem.boot_len (pa_cons (pv 0) pa_nil)) pa_nil)) (pg_name (i := 3) scLSets.nd rfl (.inl rfl)) (pss_cons (ps_set (i := 4) scLSets.nd rfl (.inl rfl) (pe_lst pa_nil))
 (pss_cons (ps_for PassesOwn.never rfl (pi_list (pv 2)) (pg_name (i := 5) scLSets.nd rfl (.inr rfl)) (pss_one (ps_set (i := 4) scLSets.nd rfl (.inl rfl) (pe_op op_cat (pv 4) (pe_lc (own := [("thing", 6)]) (g := (gName 6)) (tt := (tOr (tTest (tOp (rEqD K) (tVar 5) (tTup tNil))) (tTest (tOp (rI0 fun i j => .bl (decide (j < i))) (tVar 6) (tOp (rIxT K) (tVar 5) (tUn (rU fun i => .int (-i)) (tC (.int 1)))))))) (te := (tOp (rCat1 K) (tVar 5) (tTup (tCons (tVar 6) tNil)))) rfl scLSets.nd (pi_list (pv 0)) (blkOk_by (own := [("thing", 6)]) (N := ["things", "found", "last", "turn", "new", "one", "thing"]) (sc := defScope sLSets) (by decide +kernel)) (fun _ _ _ _ _ => (pg_name (i := 6) scLSets.nd rfl (.inl rfl))) (fun _ _ _ _ _ => pts_one (PW.pt (pw_or (pt_cmpR (op_eqD hr.units) (pv 5) (pe_tup pa_nil) (nomark _)) (pw_or1 (pt_cmpR op_gt (pv 6) (pe_ix ix_tup (pv 5) (pe_un un_neg pe_int) (fun _ _ => rfl)) (nomark _)))))) (fun _ _ _ _ _ => (pe_op op_cat1 (pv 5) (pe_tup (pa_cons (pv 6) pa_nil)))))))))
 (pss_one (ps_par (i := 1) (j := 2) (by rfl) scLSets.nd rfl rfl (by decide) rfl rfl (pa_cons (pe_op op_cat (pv 1) (pv 4)) (pa_cons (pv 4) pa_nil)) (by rfl))))))
 (pss_one (ps_ret (pv 1))))), ?_⟩
  try dsimp only [cxOf, Cx.nox, Cx.wish]
  refine q_parNN (k := (kL (kT kI) : Kd K C _)) (k1 := (kL (kT kI) : Kd K C _)) (S := S) (evn_l1 (ev_t0 (k := (kI : Kd K C _))) fr) (fun H1 s1 => evn_l1 (ev_t0 (k := (kI : Kd K C _))) (fr.same s1)) fun p1 p2 H1 H2 n1 s1 r1 n2 s2 r2 => ?_
  have s12 := s1.trans s2
  have r1 := (kL (kT kI) : Kd K C _).same s2 r1
  have n20 : H p2 = none := s1.free n2
  refine s_for (kx := kI) (S := S) (evi_rng (ev_lenL (ev_var (i := 0) rfl h_things (.same s12))) (by omega) (by omega)) fun H3 s3 => ⟨fun i σ' H' => ∃ y_turn y_new y_one y_thing pf pl, σ' = [some w_things, some (.ref pf), some (.ref pl), y_turn, y_new, y_one, y_thing] ∧ Same H3 H' ∧ H pf = none ∧ (kL (kT kI) : Kd K C _).rp S H' (.ref pf) (lsetsF ts i) ∧ (kL (kT kI) : Kd K C _).rp S H' (.ref pl) (lastF ts i), ⟨none, none, none, none, p1, p2, rfl, Same.refl _, n1, (kL (kT kI) : Kd K C _).same s3 r1, (kL (kT kI) : Kd K C _).same s3 r2⟩, fun i σ' H' ⟨_, _, _, _, _, _, _, h, _⟩ => Lf.same h, ?_, ?_⟩
  · rintro i x σ' H' v H'' hx ⟨y_turn, y_new, y_one, y_thing, pf, pl, rfl, sI, nf, hf, hl⟩ sX hv
    obtain ⟨rfl, hin⟩ := iota_at hx
    have hi6 : i < 6 := by omega
    have sB := s12.trans (s3.trans (sI.trans sX))
    have hf := (kL (kT kI) : Kd K C _).same sX hf
    have hl := (kL (kT kI) : Kd K C _).same sX hl
    refine q_setN (evn_l0 (k := (kT kI : Kd K C _)) (fr.same sB)) fun p4 H4 n4 s4 h4 => ?_
    have sB4 := sB.trans s4
    have b1 := last_bd (ts := ts) hp i
    have b2 := found_bd (ts := ts) hp i
    have c1 := last_cap (ts := ts) hp hi6
    have c2 := found_cap (ts := ts) hp (Nat.le_of_lt hi6)
    refine s_for (kx := kT kI) (S := S) (evi_list (ev_var (i := 2) rfl hl (.same s4))) fun H5 s5 => ⟨fun j σ' H' => ∃ y_one y_thing pn, σ' = [some w_things, some (.ref pf), some (.ref pl), some v, some (.ref pn), y_one, y_thing] ∧ Same H5 H' ∧ H pn = none ∧ (kL (kT kI) : Kd K C _).rp S H' (.ref pn) (((lastF ts i).take j).flatMap (setsOne ts)), ⟨_, _, p4, rfl, Same.refl _, sB.free n4, (kL (kT kI) : Kd K C _).same s5 h4⟩, fun i σ' H' ⟨_, _, _, _, h, _⟩ => Lf.same h, ?_, ?_⟩
    · rintro j one σ' H6 v' H7 hx2 ⟨y_one, y_thing, pn, rfl, s6, nn, hn⟩ s7 hv
      have sA := sB4.trans (s5.trans (s6.trans s7))
      have hn := (kL (kT kI) : Kd K C _).same s7 hn
      have b3 := take_bd (ts := ts) hp i j
      have b4 := one_bd ts one
      have ol : one.length ≤ 6 := by have := (last_mem.mp (List.mem_of_getElem? hx2)).1; omega
      refine s_setN (k := (kL (kT kI) : Kd K C _)) (S := S) (evn_catL (ev_var (i := 4) rfl hn Lf.refl) (EvN.ev (evn_lc (fr.same sA) (evi_list (ev_var (i := 0) rfl h_things (Lf.same sA))) hl6 (fun y1 hy1 D1 v1 H1 l1 f1 hv1 => lcb_name rfl (evt_or (evt_test (ev_eqD (pT pI) (ev_var rfl hv l1) (ev_t0 (k := (kI : Kd K C _))))) (fun hc => (evt_test (ev_B2 (ev_var rfl hv1 Lf.refl) (ev_lastT (ev_var rfl hv l1) (lt_ne hc)))))) (fun ht1 => (ev_catT (ev_var rfl hv l1) (ev_t1 (ev_var rfl hv1 Lf.refl)) (by simp only [List.length_singleton]; omega)))))) (fr.same sA) (by rw [show List.map (fun y => one ++ [y]) (List.filter (fun y => decide (one = []) || decide (at_ one ((one.length : Int) - 1) < y)) ts) = setsOne ts one from rfl]; omega)) fun p8 H8 n8 s8 h8 => ?_
      refine ⟨_, _, p8, rfl, s6.trans (s7.trans s8), sA.free n8, ?_⟩
      rw [take_more hx2, List.flatMap_append, List.flatMap_singleton]
      exact h8
    · rintro σ' H6 ⟨y_one, y_thing, pn, rfl, s6, nn, hn⟩
      rw [List.take_length] at hn
      have sE := sB4.trans (s5.trans s6)
      have hf := (kL (kT kI) : Kd K C _).same (s4.trans (s5.trans s6)) hf
      have hn : (kL (kT kI) : Kd K C _).rp S H6 (.ref pn) (lastF ts (i + 1)) := hn
      have sEI := sI.trans (sX.trans (s4.trans (s5.trans s6)))
      refine EvN.use (S := S) (evn_catL (ev_var (i := 1) rfl hf Lf.refl) (ev_var (i := 4) rfl hn Lf.refl) (fr.same sE) (by omega)) fun p9 H9 n9 s9 h9 => ?_
      refine ⟨_, rfl, _, _, rfl, ?_⟩
      exact ⟨_, _, _, _, p9, pn, rfl, sEI.trans s9, sE.free n9, h9, (kL (kT kI) : Kd K C _).same s9 hn⟩
  · rintro σ' H' ⟨y_turn, y_new, y_one, y_thing, pf, pl, rfl, sI, nf, hf, hl⟩
    refine ⟨_, rfl, ?_⟩
    have e : lsetsF ts (iota (ts.length : Nat)).length = lsets ts := by rw [iota_len]; rfl
    rw [e] at hf
    exact q pf H' nf (s12.trans (s3.trans sI)) hf
end
end Ew
namespace Ew
open PySem PySem.Spec PyProof.Rows L2
theorem rg_iota {n : Int} : rgV 0 n = (iota n).map V.int := by
  unfold rgV iota
  rw [List.map_map, Int.sub_zero]
  refine List.map_congr_left fun i _ => ?_
  show V.int (0 + (i : Int)) = V.int (i : Int)
  rw [Int.zero_add]
section
variable {K : PySem.W.Frag} {C : Addr} {S : List Addr} {H : Hp} {σ : L2.St} {ta : TE} {n : Int}
theorem evn_lrg (h : Ev (K := K) (C := C) kI S H ta σ n) (fr : Fr C S H) (hn : 0 ≤ n ∧ n ≤ 1000) : EvN (K := K) (C := C) (kL kI) S H (tLstRg (tRg1 ta)) σ (iota n) := fun H1 s Q q =>
  h H1 s _ fun v H2 s2 r => by
  cases (show v = .int n from r)
  refine ⟨n, rfl, RgOk.of_le (by omega) (by omega) (by omega) (by omega), fun p np => ?_⟩
  rw [rg_iota]
  exact q p _ (s2.free np) (s2.trans (sameU np)) ⟨p, _, rfl, (fr.same (s.trans s2)).out np, upd_same, paired_ints _, by rw [iota_len]; omega⟩
end
end Ew
namespace Ew
open PySem PySem.Spec PyProof.Rows L2
def inB (c : List Int) (w : Int) (n : Int) : List Int → Int → Int
  | [], m => m
  | z :: zs, m => inB c w n zs (if (c.take (n - z).toNat).sum < w then (if z - 1 < m then z - 1 else m) else m)
end Ew
namespace Ew
open PySem PySem.Spec PyProof.Rows L2
section
variable {K : PySem.W.Frag} {C : Addr} {S : List Addr} {H : Hp} {σ : L2.St} {ta tb te : TE} {v : V} {i : Nat}
theorem bt_tp {tp : Tp} (h : (kTp (K := K) (C := C)).rp S H v tp) : Bt K H v (tyD tp.py) := dq_bt (dq_tp (C := C) (S := S) h)
theorem bt_md {m : Md} (h : (kMd (K := K) (C := C)).rp S H v m) : Bt K H v (tyD m.py) := dq_bt (dq_md (C := C) (S := S) h)
theorem bt_at {a : At} (h : (kAt (K := K) (C := C)).rp S H v a) : Bt K H v (tyD a.py) := dq_bt (dq_at (C := C) (S := S) h)
theorem at_notT (a : At) : tyD a.py ≠ "tuple" := by cases a <;> simp [At.py, tyD]
theorem tyD_in (d : PyData) : tyD d ∈ ["NoneType", "bool", "int", "str", "list", "tuple", "dict"] := by cases d <;> simp [tyD]
theorem kit_tupD (d : PyData) : PySem.W.kitOne K (.type (tyD d)) (.type "tuple") = some (tyD d == "tuple") := by
  have h := tyD_in d
  generalize tyD d = T at h ⊢
  simp only [List.mem_cons, List.not_mem_nil, or_false] at h
  rcases h with rfl | rfl | rfl | rfl | rfl | rfl | rfl <;> exact kit_ty (by decide +kernel)
theorem md_ty (m : Md) : (tyD m.py == "tuple") = m.isT := by
  cases m with
  | «at» a => cases a <;> simp [Md.py, At.py, tyD, Md.isT]
  | tup l => simp [Md.py, tyD, Md.isT]
  | lst l => simp [Md.py, tyD, Md.isT]
theorem ev_isiV {T0 T : String} {b : Bool} (e : σ[i]? = some (some v)) (h : ∀ H1, Same H H1 → Bt K H1 v T0) (hb : PySem.W.kitOne K (.type T0) (.type T) = some b) : Ev (K := K) (C := C) kB S H (tCB (rIsi K) (tCons (tVar i) (tCons (tC (.ty T)) tNil))) σ b := fun H1 s Q q =>
  ⟨_, e, _, .ty T, _, _, b, rfl, .ty _, h H1 s, hb, q _ H1 (Same.refl _) rfl⟩
theorem ev_isiMd {m : Md} (e : σ[i]? = some (some v)) (h : (kMd (K := K) (C := C)).rp S H v m) : Ev (K := K) (C := C) kB S H (tCB (rIsi K) (tCons (tVar i) (tCons (tC (.ty "tuple")) tNil))) σ m.isT := by
  rw [← md_ty]
  exact ev_isiV e (fun H1 s => bt_md (C := C) (S := S) (kMd.same s h)) (kit_tupD _)
/-- is_ascending of such a value -/
theorem ev_ascM {m : Md} {n : Int} {E} (h : Ev (kMd (K := K) (C := C)) S H ta σ m) (g : Ev (K := K) (C := C) kI S H tb σ n) : Ev (K := K) (C := C) kB S H (tCall (spIsAsc K) [] E (tCons ta (tCons tb tNil))) σ (ascM n m) := fun H1 s Q q => h H1 s _ fun v H2 s2 r => g H2 (s.trans s2) _ fun w H3 s3 r3 => by
  cases (show w = .int n from r3)
  have r' := kMd.same s3 r
  refine ⟨v, n, rfl, ?_⟩
  cases m with
  | «at» a => exact .inl ⟨_, bt_md (C := C) (S := S) r', at_notT a, q _ H3 (s2.trans s3) rfl⟩
  | lst l => exact .inl ⟨_, bt_md (C := C) (S := S) r', by simp [Md.py, tyD], q _ H3 (s2.trans s3) rfl⟩
  | tup l =>
    obtain ⟨t, us, rfl, hT, hP, _⟩ := id r'
    refine .inr ⟨t, us, rfl, hT, fun y hy => ?_, q _ H3 (s2.trans s3) ?_⟩
    · obtain ⟨x, _, hx⟩ := paired_mem hP hy
      exact ⟨_, bt_at (C := C) (S := S) hx⟩
    · show V.bl (ascV n (-1) us) = V.bl (ascM n (.tup l))
      congr 1
      unfold ascM
      have := ascV_at (K := K) (C := C) (S := S) (H := H3) (n := n) (lo := -1) hP
      rcases this with h | ⟨h1, h2⟩
      · rw [h]; rfl
      · rw [h2, show Md.ints? (.tup l) = none from h1]
end
section
variable {P : Program} {w : World} {K : PySem.W.Frag} {mg : Str → Option Value} {base : Heap} {C CH SB RE : Addr}
abbrev sIsSetM : Stmt := (top 5)
theorem scIsSetM : FnScope ["value", "many"] ["value", "many"] (defScope sIsSetM) := ⟨rfl, rfl, rfl, by decide +kernel, rfl, by decide +kernel, by decide +kernel⟩
def sp_is_setM (K : PySem.W.Frag) (C : Addr) : Sp := spD (K := K) (C := C) (aC kMd (aC kI aN)) kB (fun _ => True) fun a => setM a.2.1 a.1
theorem setM_eq (n : Int) (m : Md) : setM n m = (ascM n m && match m.ints? with
    | some xs => decide (0 < ((xs.length : Nat) : Int))
    | none => false) := by
  unfold setM ascM setB
  cases m.ints? with
  | none => rfl
  | some xs => rfl
theorem c_is_setM (D : DefAt K mg "is_set_of_works" sIsSetM ["value", "many"]) (B : Bi mg) (cA : C8.Cal P w K mg base 2 "is_ascending" (spIsAsc K) []) : C8.Cal P w K mg base 3 "is_set_of_works" (sp_is_setM K C) [] := by
  refine calD D scIsSetM rfl fun f cdv A outer s H vs Q E S a hr fr ha hp q => ?_
  obtain ⟨m, n, _⟩ := a
  obtain ⟨w_value, _, rfl, h_value, w_many, _, rfl, h_many, e⟩ := ha
  cases (show _ = [] from e)
  have h_value : (kMd : Kd K C _).rp S H w_value m := h_value
  have h_many : (kI : Kd K C _).rp S H w_many n := h_many
  have q : ∀ v H', Same H H' → (kB : Kd K C _).rp S H' v (setM n m) → Q v H' := q
  refine ⟨_, (pss_one (ps_ret (pe_and (C8.pe_c cA hr (by decide) (by rfl) (pa_cons (pv 0) (pa_cons (pv 1) pa_nil))) (pe_one (pe_cmpR op_gt (pe_callB call_len_seq (by rfl) B.len PySem.boot_len (pa_cons (pv 0) pa_nil)) pe_int (nomark _)))))), ?_⟩
  try dsimp only [cxOf, Cx.nox, Cx.wish]
  refine s_ret (S := S) (Ev.to (ev_andV (c := match m.ints? with
    | some xs => decide (0 < ((xs.length : Nat) : Int))
    | none => false) (ev_ascM (ev_var (i := 0) rfl h_value Lf.refl) (ev_var (i := 1) rfl h_many Lf.refl)) fun hb => ?_) (setM_eq n m).symm) fun v H1 s1 r1 => q v H1 s1 r1
  cases e : m.ints? with
  | none => unfold ascM at hb; rw [e] at hb; cases hb
  | some xs => exact ev_B2 (f := fun i j => decide (j < i)) (ev_lenT (ev_var (i := 0) (k := kT kI) rfl (kMd_ints e h_value) Lf.refl)) ev_int
end
end Ew
namespace Ew
open PySem PySem.Spec PyProof.Rows L2
section
variable {ds : List Int} {rs : List (Int × List Int)} {ws : List (List Int)} {as : List Int} {n : Int} {v : List Int × List Int}
theorem asc_ends : ∀ {l : List Int} {z : Int}, l.Pairwise (· < ·) → z ∈ l → at_ l 0 ≤ z ∧ z ≤ at_ l ((l.length : Int) - 1) := by
  intro l z hp hz
  obtain ⟨i, hi⟩ := List.mem_iff_getElem?.mp hz
  have hlt := (List.getElem?_eq_some_iff.mp hi).1
  have e0 : l[0]? = some (at_ l 0) := at_get (l := l) (i := 0) ⟨by omega, by omega⟩
  have e1 := at_get (l := l) (i := (l.length : Int) - 1) ⟨by omega, by omega⟩
  rw [show ((l.length : Int) - 1).toNat = l.length - 1 by omega] at e1
  obtain ⟨h0, e0⟩ := List.getElem?_eq_some_iff.mp e0
  obtain ⟨h1, e1⟩ := List.getElem?_eq_some_iff.mp e1
  obtain ⟨h2, e2⟩ := List.getElem?_eq_some_iff.mp hi
  have hp' := List.pairwise_iff_getElem.mp hp
  rw [← e0, ← e1, ← e2]
  constructor
  · rcases Nat.eq_zero_or_pos i with h | h
    · subst h; exact Int.le_refl _
    · exact Int.le_of_lt (hp' 0 i h0 h2 h)
  · rcases Nat.lt_or_ge i (l.length - 1) with h | h
    · exact Int.le_of_lt (hp' i _ h2 h1 h)
    · have : i = l.length - 1 := by omega
      subst this; exact Int.le_refl _
theorem setL_rg {n : Int} {l : List Int} (h : setL n l = true) : ∀ z ∈ l, 0 ≤ z ∧ z < n := fun z hz => by
  unfold setL at h
  simp only [Bool.and_eq_true, decide_eq_true_eq] at h
  obtain ⟨_, h2, h3, h4⟩ := h
  have := asc_ends h2 hz
  omega
end
end Ew
namespace Ew
open PySem PySem.Spec PyProof.Rows L2
/-- t == (), whatever the items -/
def rEqNilT (K : PySem.W.Frag) : R2 := fun x y H Q => ∃ a b xs, x = .ref a ∧ y = .ref b ∧ SqT K H a xs ∧ SqT K H b [] ∧ Q (.bl xs.isEmpty) H
theorem op_eqNilT {X : Cx} (hu : X.A.units < cLine) : OpR X (compareOp .Eq) (rEqNilT X.K) := by
  intro pins s σ H x y v u Q I rx ry h
  obtain ⟨a, b, xs, rfl, rfl, ha, hb, q⟩ := h
  cases (show v = Value.ref a from rx)
  cases (show u = Value.ref b from ry)
  obtain ⟨ia, va, la, _⟩ := I.tuple ha
  obtain ⟨ib, vb, lb, _⟩ := I.tuple hb
  cases vb
  have e : ((List.range (min ia.toArray.size ([] : List Value).toArray.size)).all (fun _ => true) && ia.toArray.size == ([] : List Value).toArray.size) = xs.isEmpty := by
    cases va <;> simp
  refine SeqAt.RcAt.tuples (e := fun _ => true) la lb hu (fun j h1 h2 => absurd h2 (by simp)) _ _ _ _ ?_
  rw [e]
  exact ⟨.bl _, H, I, rfl, q⟩
section
variable {K : PySem.W.Frag} {C : Addr} {S : List Addr} {H : Hp} {σ : L2.St} {ta tb te : TE} {v : V} {i : Nat}
theorem ev_eqNilT {α : Type} {k : Kd K C α} {l : List α} (h : Ev (kT k) S H te σ l) : Ev (K := K) (C := C) kB S H (tOp (rEqNilT K) te (tTup tNil)) σ l.isEmpty := fun H1 s Q q => h H1 s _ fun v H2 s2 r => ⟨szL (by simp), fun t hn => by
  obtain ⟨a, us, rfl, hT, hP, _⟩ := r
  refine ⟨a, t, us, rfl, rfl, sameT (sameU hn) hT, .inl (.inl upd_same), q _ _ (s2.trans (sameU hn)) ?_⟩
  show V.bl _ = V.bl _
  cases hP <;> rfl⟩
theorem kit_intD {T : String} (h : T ∈ ["NoneType", "bool", "int", "str", "list", "tuple", "dict"]) : PySem.W.kitOne K (.type T) (.type "int") = some (T == "int" || T == "bool") ∧ PySem.W.kitOne K (.type T) (.type "bool") = some (T == "bool") := by
  simp only [List.mem_cons, List.not_mem_nil, or_false] at h
  rcases h with rfl | rfl | rfl | rfl | rfl | rfl | rfl <;> exact ⟨kit_ty (by decide +kernel), kit_ty (by decide +kernel)⟩
def At.odd : At → Bool
  | .int _ => false
  | _ => true
theorem evt_odd {a : At} (e : σ[i]? = some (some v)) (h : (kAt (K := K) (C := C)).rp S H v a) : EvT H (tOr (tNot (tB (tCB (rIsi K) (tCons (tVar i) (tCons (tC (.ty "int")) tNil))))) (tB (tCB (rIsi K) (tCons (tVar i) (tCons (tC (.ty "bool")) tNil))))) σ a.odd := by
  have k := kit_intD (K := K) (tyD_in a.py)
  have b1 := ev_isiV (K := K) (C := C) (S := S) (H := H) e (fun H1 s => bt_at (C := C) (S := S) (kAt.same s h)) k.1
  have b2 := ev_isiV (K := K) (C := C) (S := S) (H := H) e (fun H1 s => bt_at (C := C) (S := S) (kAt.same s h)) k.2
  refine (evt_or (evt_not (evt_b b1)) fun _ => evt_b b2).to ?_
  cases a <;> simp [At.odd, At.py, tyD]
theorem odd_ints : ∀ {l : List At}, (l.filter At.odd).isEmpty = (atInts? l).isSome
  | [] => rfl
  | .int i :: r => by
    have ih := odd_ints (l := r)
    rw [List.filter_cons_of_neg (by simp [At.odd]), ih, show atInts? (.int i :: r) = (atInts? r).map (i :: ·) from rfl]
    cases atInts? r <;> rfl
  | .non :: r => rfl
  | .bl b :: r => rfl
  | .str s :: r => rfl
  | .emL :: r => rfl
  | .emD :: r => rfl
end
def lsetM (n : Int) (m : Md) : Bool := match m.ints? with
  | some xs => setL n xs
  | none => false
def Md.len : Md → Nat
  | .tup l => l.length
  | .lst l => l.length
  | .at _ => 0
section
variable {P : Program} {w : World} {K : PySem.W.Frag} {mg : Str → Option Value} {base : Heap} {C CH SB RE : Addr}
abbrev sLSetM : Stmt := (top 38)
theorem scLSetM : FnScope ["value", "works", "one"] ["value", "works"] (defScope sLSetM) := ⟨rfl, rfl, rfl, by decide +kernel, rfl, by decide +kernel, by decide +kernel⟩
def spLSetM (K : PySem.W.Frag) (C : Addr) : Sp := spD (K := K) (C := C) (aC kMd (aC kI aN)) kB (fun a => a.1.len < 64) fun a => lsetM a.2.1 a.1
set_option maxHeartbeats 0 in
theorem c_law_setM (D : DefAt K mg "_law_is_set" sLSetM ["value", "works"]) (B : Bi mg) (Bset : mg "set" = none) : C8.Cal P w K mg base 1 "_law_is_set" (spLSetM K C) [] := by
  refine calD D scLSetM rfl fun f cdv A outer s H vs Q E S a hr fr ha hp q => ?_
  obtain ⟨m, n, _⟩ := a
  obtain ⟨w_value, _, rfl, h_value, w_works, _, rfl, h_works, e⟩ := ha
  cases (show _ = [] from e)
  have h_value : (kMd : Kd K C _).rp S H w_value m := h_value
  have h_works : (kI : Kd K C _).rp S H w_works n := h_works
  have hp : m.len < 64 := hp
  have q : ∀ v H', Same H H' → (kB : Kd K C _).rp S H' v (lsetM n m) → Q v H' := q
  refine ⟨_, (pss_cons (ps_if (PW.pt (pw_or (pt_not (pt_val (pe_callB call_isi (by rfl) B.isinstance (by decide +kernel) (pa_cons (pv 0) (pa_cons (pe_bltn (v := .ty "tuple") (by rfl) B.tuple (by decide +kernel) rfl) pa_nil))))) (pw_or1 (pt_cmpR (op_eqNilT (Nat.lt_of_le_of_lt (Nat.le_add_right _ 64) hr.units)) (pv 0) (pe_tup pa_nil) (nomark _))))) (pss_one (ps_ret pe_bl)) pss_nil)
 (pss_cons (ps_if (pt_cmpR (op_neNil (Nat.lt_of_le_of_lt (Nat.le_add_right _ 64) hr.units)) (pe_lc (own := [("one", 2)]) (g := (gName 2)) (tt := (tOr (tNot (tB (tCB (rIsi K) (tCons (tVar 2) (tCons (tC (.ty "int")) tNil))))) (tB (tCB (rIsi K) (tCons (tVar 2) (tCons (tC (.ty "bool")) tNil)))))) (te := (tVar 2)) rfl scLSetM.nd (pi_tup (pv 0)) (blkOk_by (own := [("one", 2)]) (N := ["value", "works", "one"]) (sc := defScope sLSetM) (by decide +kernel)) (fun _ _ _ _ _ => (pg_name (i := 2) scLSetM.nd rfl (.inl rfl))) (fun _ _ _ _ _ => pts_one (PW.pt (pw_or (pt_not (pt_val (pe_callB call_isi (by rfl) B.isinstance (by decide +kernel) (pa_cons (pv 2) (pa_cons (pe_bltn (v := .ty "int") (by rfl) B.int (by decide +kernel) rfl) pa_nil))))) (pw_or1 (pt_val (pe_callB call_isi (by rfl) B.isinstance (by decide +kernel) (pa_cons (pv 2) (pa_cons (pe_bltn (v := .ty "bool") (by rfl) B.bool (by decide +kernel) rfl) pa_nil)))))))) (fun _ _ _ _ _ => (pv 2))) (pe_lst pa_nil) (nomark _)) (pss_one (ps_ret pe_bl)) pss_nil)
 (pss_one (ps_ret (pe_and (pe_cmpR (op_eqD hr.units) (pe_callTy call_list_of (by rfl) B.list (by decide +kernel) (pa_cons (pv 0) pa_nil)) (pe_callB (cr_sortedSet rfl) (by rfl) B.sorted (by decide +kernel) (pa_cons (pe_callTy (cr_setOfI rfl) (by rfl) Bset (by decide +kernel) (pa_cons (pv 0) pa_nil)) pa_nil)) (nomark _)) (pe_and (pe_cmpR op_le pe_int (pe_ix ix_tup (pv 0) pe_int (fun _ _ => rfl)) (nomark _)) (pe_one (pe_cmpR op_lt (pe_ix ix_tup (pv 0) (pe_un un_neg pe_int) (fun _ _ => rfl)) (pv 1) (nomark _))))))))), ?_⟩
  try dsimp only [cxOf, Cx.nox, Cx.wish]
  have no : m.isT = false → ∀ H', Same H H' → Q (.bl false) H' := fun hm H' s' => q _ H' s' (by
    show V.bl false = V.bl (lsetM n m)
    congr 1
    cases m with
    | tup l => cases hm
    | «at» a => rfl
    | lst l => rfl)
  cases m with
  | «at» a => exact q_if (evt_or (c := true) (evt_not (evt_b (ev_isiMd (i := 0) rfl h_value))) fun hc => by cases hc) (fun H1 _ s1 => no rfl H1 s1) fun H1 hb _ => by cases hb
  | lst l => exact q_if (evt_or (c := true) (evt_not (evt_b (ev_isiMd (i := 0) rfl h_value))) fun hc => by cases hc) (fun H1 _ s1 => no rfl H1 s1) fun H1 hb _ => by cases hb
  | tup l =>
    have hl : (kT (kAt (K := K) (C := C))).rp S H w_value l := h_value
    have hp : l.length < 64 := hp
    refine q_if (evt_or (evt_not (evt_b (ev_isiMd (i := 0) rfl h_value))) fun hc => evt_test (ev_eqNilT (ev_var (i := 0) rfl hl Lf.refl))) (fun H1 hb s1 => ?_) fun H1 hb s1 => ?_
    · have hb : (!true || l.isEmpty) = true := hb
      have : l = [] := by simpa using hb
      subst this
      exact q _ H1 s1 rfl
    · have hb : (!true || l.isEmpty) = false := hb
      have hne : l ≠ [] := fun e => by rw [e] at hb; cases hb
      refine q_if (evt_test (ev_neNil (k := kAt) (EvN.ev (evn_lc (fr.same s1) (evi_tup (ev_var (i := 0) rfl hl (.same s1))) (by omega) (fun y1 hy1 D1 v1 H3 l1 f1 hv1 => lcb_name rfl (evt_odd (i := 2) rfl hv1) fun ht1 => (ev_var rfl hv1 Lf.refl)))) (fr.same s1))) (fun H2 hb2 s2 => ?_) fun H2 hb2 s2 => ?_
      · rw [List.map_id', odd_ints] at hb2
        refine q _ H2 (s1.trans s2) ?_
        show V.bl false = V.bl (lsetM n (.tup l))
        unfold lsetM
        rw [show Md.ints? (.tup l) = atInts? l from rfl]
        cases e : atInts? l with
        | none => rfl
        | some xs => rw [e] at hb2; cases hb2
      · rw [List.map_id', odd_ints] at hb2
        obtain ⟨xs, ex⟩ : ∃ xs, atInts? l = some xs := by
          cases e : atInts? l with
          | none => rw [e] at hb2; cases hb2
          | some xs => exact ⟨xs, rfl⟩
        have hx : (kT (kI (K := K) (C := C))).rp S H2 w_value xs := (kT kI).same (s1.trans s2) (kT_ofAt ex hl)
        have el : l.length = xs.length := by rw [atInts_of ex, List.length_map]
        have hne2 : xs ≠ [] := fun e => hne (by rw [atInts_of ex, e]; rfl)
        have hpos : 0 < xs.length := List.length_pos_iff.mpr hne2
        have h_works2 := (kI (K := K) (C := C)).same (s1.trans s2) h_works
        refine s_ret (S := S) (Ev.to (x' := setL n xs) (ev_andV (ev_asc (ev_var (i := 0) rfl hx Lf.refl) (ev_var (i := 0) rfl hx Lf.refl) (by omega)) (fun _ => (ev_andV (ev_B2 (f := fun i j => decide (i ≤ j)) ev_int (ev_ixT (ev_var (i := 0) rfl hx Lf.refl) ev_int (by omega))) (fun _ => (ev_B2 (f := fun i j => decide (i < j)) (ev_lastT (ev_var (i := 0) rfl hx Lf.refl) hpos) (ev_var (i := 1) rfl h_works2 Lf.refl)))))) (by unfold setL; rw [decide_eq_true hne2]; rfl)) fun u H3 s3 r3 => q u H3 ((s1.trans s2).trans s3) ?_
        cases (show u = .bl _ from r3)
        show V.bl _ = V.bl (lsetM n (.tup l))
        unfold lsetM
        rw [show Md.ints? (.tup l) = atInts? l from rfl, ex]
end
end Ew
namespace Ew
open PySem PySem.Spec PyProof.Rows L2
def lnk : At → At → At → Option Link
  | .int r, .int t, .non => some (r, t, none)
  | .int r, .int t, .int g => some (r, t, some g)
  | _, _, _ => none
def Md.link? : Md → Option Link
  | .tup [x, y, g] => lnk x y g
  | _ => none
def linkM (b : Bk) (kw ws : List (List Int)) (as : List Int) (z : Option Int) (m : Md) : Bool := match m.link? with
  | some l => linkB b kw ws as z l
  | none => false
def Tp.lv : Tp → Option (List Md)
  | .md (.lst l) => some (l.map Md.at)
  | .md (.at .emL) => some []
  | .lst l => some l
  | _ => none
def chainM (b : Bk) (kw ws : List (List Int)) (as : List Int) : List Md → Option Int → List Int → Bool
  | [], z, _ => z.isNone
  | m :: ms, z, e => match m.link? with
    | some l => if (!linkB b kw ws as z l || decide (l.1 ∈ e)) = true then false else chainM b kw ws as ms l.2.2 (e ++ [l.1])
    | none => false
def chainT (b : Bk) (kw ws : List (List Int)) (as : List Int) (z : Int) (tp : Tp) : Bool := match tp.lv with
  | some l => chainM b kw ws as l (some z) []
  | none => false
def closM (b : Bk) (kw ws : List (List Int)) (as : List Int) (m : Md) : Bool := match m.ints? with
  | some l => closB b kw ws as l
  | none => false
theorem link_not3 {l : List At} (h : ¬ ((l.length : Nat) : Int) = 3) : (Md.tup l).link? = none := by
  match l, h with
  | [], _ => rfl
  | [_], _ => rfl
  | [_, _], _ => rfl
  | [_, _, _], h => exact absurd rfl h
  | _ :: _ :: _ :: _ :: _, _ => rfl
theorem len3 {l : List At} (h : ((l.length : Nat) : Int) = 3) : ∃ x y g, l = [x, y, g] := by
  match l, h with
  | [x, y, g], _ => exact ⟨x, y, g, rfl⟩
  | [], h => cases h
  | [_], h => cases h
  | [_, _], h => cases h
  | _ :: _ :: _ :: _ :: _, h => simp at h; omega
theorem At.of_int {a : At} {i : Int} (h : a.asInt? = some i) : a = .int i := by
  cases a <;> simp [At.asInt?] at h
  rw [h]
theorem lnk1 {x y g : At} (h : x.asInt? = none) : lnk x y g = none := by cases x <;> first | rfl | cases h
theorem lnk2 {x y g : At} (h : y.asInt? = none) : lnk x y g = none := by cases x <;> cases y <;> first | rfl | cases h
theorem lnk3 {r t : Int} {g : At} (h : g.asInt? = none) (h2 : g ≠ .non) : lnk (.int r) (.int t) g = none := by cases g <;> first | rfl | exact absurd rfl h2 | cases h
section
variable {K : PySem.W.Frag} {C : Addr} {S : List Addr} {H : Hp} {σ : L2.St} {te ta tb : TE} {v : V} {i : Nat}
theorem q_unp3A {x y g : At} {i j m n : Nat} {u : TS} {D : Ends} (e : σ[i]? = some (some v)) (h : (kT (kAt (K := K) (C := C))).rp S H v [x, y, g]) (q : ∀ v1 v2 v3, (kAt (K := K) (C := C)).rp S H v1 x → (kAt (K := K) (C := C)).rp S H v2 y → (kAt (K := K) (C := C)).rp S H v3 g → u D (((σ.set j (some v1)).set m (some v2)).set n (some v3)) H) : tSeq (tAsg (tVar i) (gTup K 3 (gCons (gName j) (gCons (gName m) (gCons (gName n) gNil))))) u D σ H := by
  obtain ⟨t, us, rfl, hT, hP, _⟩ := h
  cases hP with
  | @cons v1 _ _ _ h1 hP =>
    cases hP with
    | @cons v2 _ _ _ h2 hP =>
      cases hP with
      | @cons v3 _ _ _ h3 hP =>
        cases hP
        exact ⟨_, e, t, _, rfl, hT, rfl, v1, _, rfl, v2, _, rfl, v3, _, rfl, rfl, q v1 v2 v3 h1 h2 h3⟩
theorem isI_at {a : At} (h : (kAt (K := K) (C := C)).rp S H v a) : isI v = a.asInt?.isSome := by
  cases a with
  | non => cases (show v = .non from h); rfl
  | bl b => cases (show v = .bl b from h); rfl
  | int i => cases (show v = .int i from h); rfl
  | str s => cases (show v = .str s from h); rfl
  | emL => obtain ⟨p, rfl, _⟩ := h; rfl
  | emD => obtain ⟨p, rfl, _⟩ := h; rfl
theorem ev_isIntA {a : At} (h : Ev (kAt (K := K) (C := C)) S H te σ a) : Ev (K := K) (C := C) kB S H (tCall (spIsInt K) [] C8.E0 (tCons te tNil)) σ a.asInt?.isSome := fun H1 s Q q =>
  h H1 s _ fun v H2 s2 r => ⟨v, _, rfl, bt_at (C := C) (S := S) r, q _ H2 s2 (by rw [isI_at r]; rfl)⟩
theorem ev_isNA {a : At} (h : Ev (kAt (K := K) (C := C)) S H te σ a) : Ev (K := K) (C := C) kB S H (tOp rIsN te (tC .non)) σ (decide (a = .non)) := fun H1 s Q q =>
  h H1 s _ fun v H2 s2 r => ⟨rfl, q _ H2 s2 (by
    cases a with
    | non => cases (show v = .non from r); rfl
    | bl b => cases (show v = .bl b from r); rfl
    | int i => cases (show v = .int i from r); rfl
    | str s => cases (show v = .str s from r); rfl
    | emL => obtain ⟨p, rfl, _⟩ := r; rfl
    | emD => obtain ⟨p, rfl, _⟩ := r; rfl)⟩
theorem link_rp {m : Md} {l : Link} (e : m.link? = some l) (h : (kMd (K := K) (C := C)).rp S H v m) : (kLink (K := K) (C := C)).rp S H v l := by
  cases m with
  | «at» a => cases e
  | lst l => cases e
  | tup l0 =>
    match l0, e, h with
    | [x, y, g], e, h =>
      obtain ⟨t, us, rfl, hT, hP, _⟩ := h
      cases hP with
      | @cons v1 _ _ _ h1 hP =>
        cases hP with
        | @cons v2 _ _ _ h2 hP =>
          cases hP with
          | @cons v3 _ _ _ h3 hP =>
            cases hP
            have e : lnk x y g = some l := e
            cases hx : x.asInt? with
            | none => rw [lnk1 hx] at e; cases e
            | some r =>
            cases hy : y.asInt? with
            | none => rw [lnk2 hy] at e; cases e
            | some t' =>
            cases At.of_int hx
            cases At.of_int hy
            refine ⟨t, v1, v2, v3, rfl, hT, ?_⟩
            cases g with
            | non => cases e; exact ⟨h1, h2, h3⟩
            | int g => cases e; exact ⟨h1, h2, h3⟩
            | bl b => cases e
            | str b => cases e
            | emL => cases e
            | emD => cases e
    | [], e, _ => cases e
    | [_], e, _ => cases e
    | [_, _], e, _ => cases e
    | _ :: _ :: _ :: _ :: _, e, _ => cases e
theorem kit_lstD (d : PyData) : PySem.W.kitOne K (.type (tyD d)) (.type "list") = some (tyD d == "list") := by
  have h := tyD_in d
  generalize tyD d = T at h ⊢
  simp only [List.mem_cons, List.not_mem_nil, or_false] at h
  rcases h with rfl | rfl | rfl | rfl | rfl | rfl | rfl <;> exact kit_ty (by decide +kernel)
theorem lv_ty (tp : Tp) : (tyD tp.py == "list") = tp.lv.isSome := by
  cases tp with
  | md m => cases m with
    | «at» a => cases a <;> simp [Tp.py, Md.py, At.py, tyD, Tp.lv]
    | tup l => simp [Tp.py, Md.py, tyD, Tp.lv]
    | lst l => simp [Tp.py, Md.py, tyD, Tp.lv]
  | tup l => simp [Tp.py, tyD, Tp.lv]
  | lst l => simp [Tp.py, tyD, Tp.lv]
theorem ev_isiTpL {tp : Tp} (e : σ[i]? = some (some v)) (h : (kTp (K := K) (C := C)).rp S H v tp) : Ev (K := K) (C := C) kB S H (tCB (rIsi K) (tCons (tVar i) (tCons (tC (.ty "list")) tNil))) σ tp.lv.isSome := by
  rw [← lv_ty]
  exact ev_isiV e (fun H1 s => bt_tp (C := C) (S := S) (kTp.same s h)) (kit_lstD _)
theorem lv_rp {tp : Tp} {l : List Md} (e : tp.lv = some l) (h : (kTp (K := K) (C := C)).rp S H v tp) : (kL (kMd (K := K) (C := C))).rp S H v l := by
  cases tp with
  | md m => cases m with
    | lst l0 =>
      cases (show some (l0.map Md.at) = some l from e)
      obtain ⟨t, us, rfl, n, hT, hP, hl⟩ := h
      refine ⟨t, us, rfl, n, hT, ?_, by rw [List.length_map]; exact hl⟩
      clear hT hl e n
      induction hP with
      | nil => exact .nil
      | cons a t ih => exact .cons a ih
    | «at» a => cases a with
      | emL =>
        cases (show some [] = some l from e)
        obtain ⟨p, rfl, n, hT⟩ := h
        exact ⟨p, [], rfl, n, hT, .nil, by simp⟩
      | non => cases e
      | bl b => cases e
      | int i => cases e
      | str s => cases e
      | emD => cases e
    | tup l => cases e
  | lst l0 => cases (show some l0 = some l from e); exact h
  | tup l => cases e
end
section
variable {P : Program} {w : World} {K : PySem.W.Frag} {mg : Str → Option Value} {base : Heap} {C : Addr}
abbrev sLinkM : Stmt := (top 14)
def sp_is_linkM (K : PySem.W.Frag) (C : Addr) : Sp := spD (K := K) (C := C) (aC kBk (aC kWs (aC kWs (aC (kT kI) (aC (kO kI) (aC kMd aN)))))) kB (fun a => RowsIn a.1 a.2.2.1 ∧ a.2.1.length = a.2.2.1.length) fun a => linkM a.1 a.2.1 a.2.2.1 a.2.2.2.1 a.2.2.2.2.1 a.2.2.2.2.2.1
theorem scLinkM : FnScope ["book", "kept", "rows", "absent", "work", "value", "reader", "takes", "gives"] ["book", "kept", "rows", "absent", "work", "value"] (defScope sLinkM) := ⟨rfl, rfl, rfl, by decide +kernel, rfl, by decide +kernel, by decide +kernel⟩
set_option maxHeartbeats 0 in
theorem c_is_linkM (D : DefAt K mg "is_link" sLinkM ["book", "kept", "rows", "absent", "work", "value"]) (B : Bi mg) (T : BkC P w K mg base C) (c_is_integer : C8.Cal P w K mg base 1 "is_integer" (spIsInt K) []) (c_takers : C8.Cal P w K mg base 3 "takers" (sp_takers K C) []) (c_is_free : C8.Cal P w K mg base 2 "is_free" (sp_is_free K C) []) (c_loose_works : C8.Cal P w K mg base 1 "loose_works" (sp_loose_works K C) []) : C8.Cal P w K mg base 4 "is_link" (sp_is_linkM K C) [] := by
  refine calD D scLinkM rfl fun f cdv A outer s H vs Q E S a hr fr ha hp q => ?_
  obtain ⟨b, kw, ws, as, z, m, _⟩ := a
  obtain ⟨w_book, _, rfl, h_book, w_kept, _, rfl, h_kept, w_rows, _, rfl, h_rows, w_absent, _, rfl, h_absent, w_work, _, rfl, h_work, w_value, _, rfl, h_value, e⟩ := ha
  cases (show _ = [] from e)
  obtain ⟨rin, hkl⟩ : RowsIn b ws ∧ kw.length = ws.length := hp
  have h_book : (kBk : Kd K C _).rp S H w_book b := h_book
  have h_kept : ((kL (kT kI)) : Kd K C _).rp S H w_kept kw := h_kept
  have h_rows : ((kL (kT kI)) : Kd K C _).rp S H w_rows ws := h_rows
  have h_absent : ((kT kI) : Kd K C _).rp S H w_absent as := h_absent
  have h_work : ((kO kI) : Kd K C _).rp S H w_work z := h_work
  have h_value : (kMd : Kd K C _).rp S H w_value m := h_value
  have q : ∀ c H', Same H H' → c = linkM b kw ws as z m → Q (.bl c) H' := fun c H' s e => by rw [e]; exact q _ H' s rfl
  have qf : m.link? = none → ∀ H', Same H H' → Q (.bl false) H' := fun e H' s => q false H' s (by unfold linkM; rw [e])
  refine ⟨_, (pss_cons (ps_if (PW.pt (pw_or (pt_not (pt_val (pe_callB call_isi (by rfl) B.isinstance (by decide +kernel) (pa_cons (pv 5) (pa_cons (pe_bltn (v := .ty "tuple") (by rfl) B.tuple (by decide +kernel) rfl) pa_nil))))) (pw_or1 (pt_cmpR op_ne (pe_callB call_len_seq (by rfl) B.len PySem.boot_len (pa_cons (pv 5) pa_nil)) pe_int (nomark _))))) (pss_one (ps_ret pe_bl)) pss_nil)
 (pss_cons (ps_asg (pv 5) (pg_tup (by rfl) (pgs_cons (pg_name (i := 6) scLinkM.nd rfl (.inl rfl)) (pgs_cons (pg_name (i := 7) scLinkM.nd rfl (.inl rfl)) (pgs_cons (pg_name (i := 8) scLinkM.nd rfl (.inl rfl)) pgs_nil)))))
 (pss_cons (ps_if (PW.pt (pw_or (pt_not (pt_val (C8.pe_c c_is_integer hr (by decide) (by rfl) (pa_cons (pv 6) pa_nil)))) (pw_or (pt_not (pt_val (C8.pe_c c_is_integer hr (by decide) (by rfl) (pa_cons (pv 7) pa_nil)))) (pw_or1 (pt_cmpR op_ne (pv 7) (pv 4) (nomark _)))))) (pss_one (ps_ret pe_bl)) pss_nil)
 (pss_cons (ps_if (pt_cmpR op_notIn_seq (pv 6) (C8.pe_c c_takers hr (by decide) (by rfl) (pa_cons (pv 0) (pa_cons (pv 2) (pa_cons (pv 3) (pa_cons (pv 4) pa_nil))))) (by rfl)) (pss_one (ps_ret pe_bl)) pss_nil)
 (pss_cons (ps_if (pt_cmpR op_isN (pv 8) pe_non (nomark _)) (pss_one (ps_ret (C8.pe_c c_is_free hr (by decide) (by rfl) (pa_cons (pv 0) (pa_cons (pv 2) (pa_cons (pv 6) pa_nil)))))) pss_nil)
 (pss_one (ps_ret (pe_and (C8.pe_c c_is_integer hr (by decide) (by rfl) (pa_cons (pv 8) pa_nil)) (pe_one (pe_cmpR op_in_seq (pv 8) (C8.pe_c c_loose_works hr (by decide) (by rfl) (pa_cons (pv 1) (pa_cons (pv 2) (pa_cons (pv 6) pa_nil)))) (by rfl))))))))))), ?_⟩
  dsimp only [cxOf, Cx.nox, Cx.wish]
  cases m with
  | «at» a => exact q_if (evt_or (c := true) (evt_not (evt_b (ev_isiMd (i := 5) rfl h_value))) fun hc => by cases hc) (fun H1 _ s1 => qf rfl H1 s1) fun H1 hb _ => by cases hb
  | lst a => exact q_if (evt_or (c := true) (evt_not (evt_b (ev_isiMd (i := 5) rfl h_value))) fun hc => by cases hc) (fun H1 _ s1 => qf rfl H1 s1) fun H1 hb _ => by cases hb
  | tup l =>
  have hl : (kT (kAt : Kd K C _)).rp S H w_value l := h_value
  refine q_if (evt_or (evt_not (evt_b (ev_isiMd (i := 5) rfl h_value))) fun hc => evt_test (ev_neI (ev_lenT (ev_var (i := 5) rfl hl Lf.refl)) ev_int)) (fun H1 hb s1 => ?_) fun H1 hb s1 => ?_
  · have hb : (!true || !decide (((l.length : Nat) : Int) = 3)) = true := hb
    exact qf (link_not3 (by simpa using hb)) H1 s1
  have hb : (!true || !decide (((l.length : Nat) : Int) = 3)) = false := hb
  obtain ⟨x, y, g, rfl⟩ := len3 (l := l) (by simpa using hb)
  refine q_unp3A (i := 5) (j := 6) (m := 7) (n := 8) rfl ((kT kAt).same s1 hl) fun v1 v2 v3 r1 r2 r3 => ?_
  try dsimp only [List.set]
  have f1 := fr.same s1
  cases hx : x.asInt? with
  | none => exact q_if (evt_or (c := true) (evt_not (evt_b (ev_isIntA (ev_var (i := 6) rfl r1 Lf.refl)))) fun hc => by rw [hx] at hc; cases hc) (fun H2 _ s2 => qf (lnk1 hx) H2 (s1.trans s2)) fun H2 hb _ => by rw [hx] at hb; cases hb
  | some r =>
  cases At.of_int hx
  have r1 : (kI : Kd K C _).rp S H1 v1 r := r1
  cases hy : y.asInt? with
  | none => exact q_if (evt_or (evt_not (evt_b (ev_isInt (ev_var (i := 6) rfl r1 Lf.refl)))) fun _ => evt_or (c := true) (evt_not (evt_b (ev_isIntA (ev_var (i := 7) rfl r2 Lf.refl)))) fun hc => by rw [hy] at hc; cases hc) (fun H2 _ s2 => qf (lnk2 hy) H2 (s1.trans s2)) fun H2 hb _ => by rw [hy] at hb; cases hb
  | some t =>
  cases At.of_int hy
  have r2 : (kI : Kd K C _).rp S H1 v2 t := r2
  have ql : ∀ gv, lnk (.int r) (.int t) g = some (r, t, gv) → ∀ c H', Same H H' → c = (decide (some t = z) && (decide (r ∈ takersB b ws as t) && giveB b kw ws r gv)) → Q (.bl c) H' := fun gv e c H' s e2 => q c H' s (by rw [e2]; unfold linkM; rw [show (Md.tup [At.int r, At.int t, g]).link? = some (r, t, gv) from e]; rfl)
  have qb : (¬ some t = z ∨ ¬ r ∈ takersB b ws as t) → ∀ H', Same H H' → Q (.bl false) H' := fun hn H' s => by
    refine q false H' s ?_
    unfold linkM
    cases e : (Md.tup [At.int r, At.int t, g]).link? with
    | none => rfl
    | some l =>
      have e' : l.1 = r ∧ l.2.1 = t := by cases g <;> cases e <;> exact ⟨rfl, rfl⟩
      show false = linkB b kw ws as z l
      unfold linkB
      rw [e'.1, e'.2]
      rcases hn with hn | hn
      · rw [decide_eq_false hn]; rfl
      · rw [decide_eq_false hn]; simp
  refine q_if (evt_or (evt_not (evt_b (ev_isInt (ev_var (i := 6) rfl r1 Lf.refl)))) fun _ => evt_or (evt_not (evt_b (ev_isInt (ev_var (i := 7) rfl r2 Lf.refl)))) fun _ => evt_test (ev_neO (ev_var (i := 7) rfl r2 Lf.refl) (ev_var (i := 4) rfl h_work (Lf.same s1)))) (fun H2 hc s2 => qb (.inl (by simpa using hc)) H2 (s1.trans s2)) fun H2 hc s2 => ?_
  have hz : some t = z := by simpa using hc
  subst hz
  have f2 := f1.same s2
  have s02 := s1.trans s2
  have h_work2 : (kI : Kd K C _).rp S H2 w_work t := h_work
  refine q_if (evt_test (ev_nin (ev_var (i := 6) rfl r1 (Lf.same s2)) (EvN.ev (evn_call (eva_cons (ev_var (i := 0) rfl h_book (Lf.same s02)) (eva_cons (ev_var (i := 2) rfl h_rows (Lf.same s02)) (eva_cons (ev_var (i := 3) rfl h_absent (Lf.same s02)) (eva_cons (ev_var (i := 4) rfl h_work2 Lf.refl) eva_nil)))) f2 rin.len)) IsSq.l)) (fun H3 hc s3 => qb (.inr (by simpa using hc)) H3 (s02.trans s3)) fun H3 hc s3 => ?_
  have hr : r ∈ takersB b ws as t := by simpa using hc
  have ir : IsRd b ws r := IsRd.of rin.len (List.mem_filter.mp hr).1
  have s03 := s02.trans s3
  have f3 := f2.same s3
  have r3' := (kAt : Kd K C _).same (s2.trans s3) r3
  refine q_if (evt_test (ev_isNA (ev_var (i := 8) rfl r3' Lf.refl))) (fun H4 hc s4 => ?_) fun H4 hc s4 => ?_
  · have hg : g = .non := of_decide_eq_true hc
    subst hg
    have f4 := f3.same s4
    have s04 := s03.trans s4
    refine s_ret (ev_call (eva_cons (ev_var (i := 0) rfl h_book (Lf.same s04)) (eva_cons (ev_var (i := 2) rfl h_rows (Lf.same s04)) (eva_cons (ev_var (i := 6) rfl r1 (Lf.same (s2.trans (s3.trans s4)))) eva_nil))) f4 ir) fun v H' s' r' => ?_
    cases (show v = .bl (freeB b ws r) from r')
    exact ql none rfl _ H' (s04.trans s') (by rw [decide_eq_true rfl, decide_eq_true hr]; rfl)
  · have hg : g ≠ .non := of_decide_eq_false hc
    have f4 := f3.same s4
    have s04 := s03.trans s4
    have r4 := (kAt : Kd K C _).same s4 r3'
    cases e : g.asInt? with
    | none =>
      refine s_ret (ev_andV (c := false) (ev_isIntA (ev_var (i := 8) rfl r4 Lf.refl)) fun hb => by rw [e] at hb; cases hb) fun v H' s' r' => ?_
      rw [e] at r'
      cases (show v = .bl false from r')
      exact qf (lnk3 e hg) H' (s04.trans s')
    | some g' =>
      cases At.of_int e
      have r4 : (kI : Kd K C _).rp S H4 v3 g' := r4
      refine s_ret (ev_andV (ev_isInt (ev_var (i := 8) rfl r4 Lf.refl)) (fun _ => (ev_in (ev_var (i := 8) rfl r4 Lf.refl) (EvN.ev (evn_call (eva_cons (ev_var (i := 1) rfl h_kept (Lf.same s04)) (eva_cons (ev_var (i := 2) rfl h_rows (Lf.same s04)) (eva_cons (ev_var (i := 6) rfl r1 (Lf.same (s2.trans (s3.trans s4)))) eva_nil))) f4 ⟨ir.1, hkl⟩)) IsSq.l))) fun v H' s' r' => ?_
      cases (show v = .bl (true && decide (g' ∈ looseB kw ws r)) from r')
      exact ql (some g') rfl _ H' (s04.trans s') (by rw [decide_eq_true rfl, decide_eq_true hr]; rfl)
end
end Ew
namespace Ew
open PySem PySem.Spec PyProof.Rows L2
def shutM (rs : List (Int × List Int)) (kw ws : List (List Int)) (as : List Int) (m : Md) (n : Int) : Bool := match m.ints? with
  | some l => setL n l && shutB rs kw ws as l
  | none => false
def giveL (kw ws : List (List Int)) (limit r : Int) : Option Int → Bool
  | none => decide (((at_ ws r).length : Int) < limit)
  | some g => (decide (0 ≤ g) && decide (g < 6)) && (decide (g ∈ at_ ws r) && !decide (g ∈ at_ kw r))
def linkL (rs : List (Int × List Int)) (kw ws : List (List Int)) (as : List Int) (z : Int) (e : List Int) (l : Link) : Bool :=
  (decide (0 ≤ l.1) && decide (l.1 < (rs.length : Nat))) && (!(decide (l.1 ∈ e) || decide (l.1 ∈ as)) && (((decide (0 ≤ l.2.1) && decide (l.2.1 < 6)) && decide (l.2.1 = z)) && ((decide (l.2.1 ∈ (at_ rs l.1).2) && !decide (l.2.1 ∈ at_ ws l.1)) && giveL kw ws (at_ rs l.1).1 l.1 l.2.2)))
def linksM (rs : List (Int × List Int)) (kw ws : List (List Int)) (as : List Int) : List Md → Int → List Int → Bool
  | [], z, _ => decide (z = -1)
  | m :: ms, z, e => match m.link? with
    | some l => if linkL rs kw ws as z e l = true then linksM rs kw ws as ms (l.2.2.getD (-1)) (e ++ [l.1]) else false
    | none => false
def linksT (rs : List (Int × List Int)) (kw ws : List (List Int)) (as : List Int) (z : Int) (tp : Tp) : Bool := match tp.lv with
  | some l => !l.isEmpty && linksM rs kw ws as l z []
  | none => false
theorem ev_chainA {K : PySem.W.Frag} {C : Addr} {S : List Addr} {H : Hp} {σ : L2.St} {fa ga : Int → Int → Bool} {ta tb tc : TE} {i j m : Int} (ha : Ev (K := K) (C := C) kI S H ta σ i) (hb : Ev (K := K) (C := C) kI S H tb σ j) (hc : Ev (K := K) (C := C) kI S H tc σ m) : Ev (K := K) (C := C) kB S H (tChain (rI0 fun i j => .bl (fa i j)) (rI0 fun i j => .bl (ga i j)) ta tb tc) σ (fa i j && ga j m) := fun H1 s Q q => ha H1 s _ fun v H2 s2 r => hb H2 (s.trans s2) _ fun v2 H3 s3 r2 => by
  cases (show v = .int i from r)
  cases (show v2 = .int j from r2)
  refine ⟨i, j, rfl, rfl, fa i j, rfl, ?_⟩
  cases hf : fa i j with
  | true => exact iteT (hc H3 (s.trans (s2.trans s3)) _ fun v3 H4 s4 r3 => by
      cases (show v3 = .int m from r3)
      exact ⟨j, m, rfl, rfl, q _ H4 (s2.trans (s3.trans s4)) (by rw [hf, Bool.true_and]; rfl)⟩)
  | false => exact iteF (q _ H3 (s2.trans s3) (by rw [hf, Bool.false_and]; rfl))
def numA (n : Int) (a : At) : Bool := match a.asInt? with
  | some i => decide (0 ≤ i) && decide (i < n)
  | none => false
section
variable {P : Program} {w : World} {K : PySem.W.Frag} {mg : Str → Option Value} {base : Heap} {C : Addr}
abbrev sChainM : Stmt := (top 15)
def sp_is_chainM (K : PySem.W.Frag) (C : Addr) : Sp := spD (K := K) (C := C) (aC kBk (aC kWs (aC kWs (aC (kT kI) (aC kI (aC kTp aN)))))) kB (fun a => RowsIn a.1 a.2.2.1 ∧ a.2.1.length = a.2.2.1.length) fun a => chainT a.1 a.2.1 a.2.2.1 a.2.2.2.1 a.2.2.2.2.1 a.2.2.2.2.2.1
theorem scChainM : FnScope ["book", "kept", "rows", "absent", "work", "value", "wanted", "earlier", "link"] ["book", "kept", "rows", "absent", "work", "value"] (defScope sChainM) := ⟨rfl, rfl, rfl, by decide +kernel, rfl, by decide +kernel, by decide +kernel⟩
set_option maxHeartbeats 0 in
theorem c_is_chainM (D : DefAt K mg "is_chain" sChainM ["book", "kept", "rows", "absent", "work", "value"]) (B : Bi mg) (T : BkC P w K mg base C) (c_is_linkM : C8.Cal P w K mg base 4 "is_link" (sp_is_linkM K C) []) : C8.Cal P w K mg base 5 "is_chain" (sp_is_chainM K C) [] := by
  refine calD D scChainM rfl fun f cdv A outer s H vs Q E S a hr fr ha hp q => ?_
  obtain ⟨b, kw, ws, as, z, tp, _⟩ := a
  obtain ⟨w_book, _, rfl, h_book, w_kept, _, rfl, h_kept, w_rows, _, rfl, h_rows, w_absent, _, rfl, h_absent, w_work, _, rfl, h_work, w_value, _, rfl, h_value, e⟩ := ha
  cases (show _ = [] from e)
  obtain ⟨rin, hkl⟩ : RowsIn b ws ∧ kw.length = ws.length := hp
  have h_book : (kBk : Kd K C _).rp S H w_book b := h_book
  have h_kept : ((kL (kT kI)) : Kd K C _).rp S H w_kept kw := h_kept
  have h_rows : ((kL (kT kI)) : Kd K C _).rp S H w_rows ws := h_rows
  have h_absent : ((kT kI) : Kd K C _).rp S H w_absent as := h_absent
  have h_work : (kI : Kd K C _).rp S H w_work z := h_work
  have h_tp : (kTp : Kd K C _).rp S H w_value tp := h_value
  refine ⟨_, (pss_cons (ps_if (pt_not (pt_val (pe_callB call_isi (by rfl) B.isinstance (by decide +kernel) (pa_cons (pv 5) (pa_cons (pe_bltn (v := .ty "list") (by rfl) B.list (by decide +kernel) rfl) pa_nil))))) (pss_one (ps_ret pe_bl)) pss_nil)
 (pss_cons (ps_set (i := 6) scChainM.nd rfl (.inl rfl) (pv 4))
 (pss_cons (ps_set (i := 7) scChainM.nd rfl (.inl rfl) (pe_lst pa_nil))
 (pss_cons (ps_for PassesOwn.never rfl (pi_list (pv 5)) (pg_name (i := 8) scChainM.nd rfl (.inl rfl)) (pss_cons (ps_if (PW.pt (pw_or (pt_not (pt_val (C8.pe_c c_is_linkM hr (by decide) (by rfl) (pa_cons (pv 0) (pa_cons (pv 1) (pa_cons (pv 2) (pa_cons (pv 3) (pa_cons (pv 6) (pa_cons (pv 8) pa_nil))))))))) (pw_or1 (pt_cmpR op_in_seq (pe_ix ix_tup (pv 8) pe_int (fun _ _ => rfl)) (pv 7) (by rfl))))) (pss_one (ps_ret pe_bl)) pss_nil)
 (pss_cons (ps_expr (pe_bm PySem.F.plainAttrs_list PySem.F.slot_list_append PySem.F.type_list_append mt_append (pv 7) (pa_cons (pe_ix ix_tup (pv 8) pe_int (fun _ _ => rfl)) pa_nil)))
 (pss_one (ps_set (i := 6) scChainM.nd rfl (.inl rfl) (pe_ix ix_tup (pv 8) pe_int (fun _ _ => rfl)))))))
 (pss_one (ps_ret (pe_cmpR op_isN (pv 6) pe_non (nomark _)))))))), ?_⟩
  dsimp only [cxOf, Cx.nox, Cx.wish]
  cases elv : tp.lv with
  | none => exact q_if (evt_not (evt_b (ev_isiTpL (i := 5) rfl h_tp))) (fun H1 hc s1 => s_ret (S := S) (k := (kB : Kd K C _)) ev_bl fun v H' s' r' => q v H' (s1.trans s') (by show (kB : Kd K C _).rp S H' v (chainT b kw ws as z tp); unfold chainT; rw [elv]; exact r')) fun H1 hc s1 => by rw [elv] at hc; cases hc
  | some ls =>
  have h_value : (kL kMd : Kd K C _).rp S H w_value ls := lv_rp elv h_tp
  have lsl := kL_len h_value
  have q : ∀ v H', Same H H' → (kB : Kd K C _).rp S H' v (chainM b kw ws as ls (some z) []) → Q v H' := fun v H' s r => q v H' s (by show (kB : Kd K C _).rp S H' v (chainT b kw ws as z tp); unfold chainT; rw [elv]; exact r)
  refine q_if (evt_not (evt_b (ev_isiTpL (i := 5) rfl h_tp))) (fun H1 hc s1 => by rw [elv] at hc; cases hc) fun H1 hc s1 => ?_
  refine q_set (ev_var rfl h_work (Lf.same s1)) fun w7 H2 s2 h7 => ?_
  have f2 := fr.same (s1.trans s2)
  refine q_setN (evn_l0 (k := (kI : Kd K C _)) f2) fun p H3 np s3 h8 => ?_
  have s03 := s1.trans (s2.trans s3)
  have np0 : H p = none := (s1.trans s2).free np
  obtain ⟨p', hpe, hpn, hp3, _⟩ := kL_ints h8
  cases hpe
  have lf : ∀ Hc, Same H Hc → Lf K C S H (p :: S) Hc := fun Hc s => ⟨fun k v x h => k.same s (k.new np0 h), s.tab⟩
  have f3 : Fr C (p :: S) H3 := fun a m => by
    rcases List.mem_cons.mp m with rfl | m
    · exact ⟨_, hp3, trivial⟩
    · exact (f2.same s3) a m
  refine s_for (kx := kMd) (S := p :: S) (evi_list (ev_var rfl h_value (lf H3 s03))) fun H4 s4 => ⟨fun i σ' H' => ∃ w7 y9 zi es, σ' = [some w_book, some w_kept, some w_rows, some w_absent, some w_work, some w_value, some w7, some (.ref p), y9] ∧ Same H H' ∧ Fr C (p :: S) H' ∧ Lf K C (p :: S) H4 (p :: S) H' ∧ (kO kI : Kd K C _).rp (p :: S) H' w7 zi ∧ H' p = some (.lst (es.map V.int)) ∧ es.length ≤ i ∧ chainM b kw ws as ls (some z) [] = chainM b kw ws as (ls.drop i) zi es,
    ⟨w7, none, some z, [], rfl, s03.trans s4, f3.same s4, Lf.refl, h7, s4 _ _ hp3, Nat.zero_le _, rfl⟩, fun i σ' H' h => let ⟨_, _, _, _, _, _, _, l, _⟩ := h; l, ?_, ?_⟩
  · rintro i m σ' H' v H'' hx ⟨w7, y9, zi, es, rfl, sc, fc, lc, h7, hpe, hl, hres⟩ sx hv
    have hil : i < ls.length := by
      rcases Nat.lt_or_ge i ls.length with h | h
      · exact h
      · rw [List.getElem?_eq_none h] at hx; cases hx
    have hdrop : ls.drop i = m :: ls.drop (i + 1) := by
      rw [List.drop_eq_getElem_cons hil]
      rw [List.getElem?_eq_getElem hil] at hx
      cases hx
      rfl
    rw [hdrop, chainM] at hres
    have sc2 := sc.trans sx
    have fc2 := fc.same sx
    have l2 := lf H'' sc2
    have h7' := (kO kI : Kd K C _).same sx h7
    have hes : (kL kI : Kd K C _).rp S H'' (.ref p) es := ⟨p, _, rfl, hpn, sx _ _ hpe, paired_ints es, by omega⟩
    have fS : Fr C S H'' := fr.same sc2
    have h7S : (kO kI : Kd K C _).rp S H'' w7 zi := (kO kI : Kd K C _).less (fun a m => by simp [m]) h7'
    have hvM : (kMd : Kd K C _).rp S H'' v m := (kMd : Kd K C _).less (fun a m => by simp [m]) hv
    have ecall : ∀ {σ : L2.St}, σ = [some w_book, some w_kept, some w_rows, some w_absent, some w_work, some w_value, some w7, some (.ref p), some v] → Ev (K := K) (C := C) kB S H'' (tCall (sp_is_linkM K C) [] C8.E0 (tCons (tVar 0) (tCons (tVar 1) (tCons (tVar 2) (tCons (tVar 3) (tCons (tVar 6) (tCons (tVar 8) tNil))))))) σ (linkM b kw ws as zi m) := fun e => by
      subst e
      exact ev_call (ks := (aC kBk (aC kWs (aC kWs (aC (kT kI) (aC (kO kI) (aC kMd aN))))) : Ka K C _)) (kr := kB) (a := (b, kw, ws, as, zi, m, ())) (eva_cons (ev_var rfl h_book (Lf.same sc2)) (eva_cons (ev_var rfl h_kept (Lf.same sc2)) (eva_cons (ev_var rfl h_rows (Lf.same sc2)) (eva_cons (ev_var rfl h_absent (Lf.same sc2)) (eva_cons (ev_var rfl h7S Lf.refl) (eva_cons (ev_var rfl hvM Lf.refl) eva_nil)))))) fS ⟨rin, hkl⟩
    cases eml : m.link? with
    | none =>
      rw [eml] at hres
      have el : linkM b kw ws as zi m = false := by unfold linkM; rw [eml]
      exact q_if (evt_or (c := true) (evt_not (evt_b (ecall rfl))) fun hc => by rw [el] at hc; cases hc) (fun H5 _ s5 => s_ret (S := S) (k := (kB : Kd K C _)) ev_bl fun v H' s' r' => q v H' (sc2.trans (s5.trans s')) (by rw [hres]; exact r')) fun H5 hb _ => by rw [el] at hb; cases hb
    | some l =>
    rw [eml] at hres
    have el : linkM b kw ws as zi m = linkB b kw ws as zi l := by unfold linkM; rw [eml]
    have hvS : (kLink : Kd K C _).rp S H'' v l := link_rp eml hvM
    have hv2 : (kLink : Kd K C _).rp (p :: S) H'' v l := link_rp eml hv
    refine q_if (evt_or (evt_not (evt_b (ecall rfl))) (fun _ => evt_test (ev_in (ev_31 (ev_var rfl hvS Lf.refl)) (ev_var rfl hes Lf.refl) IsSq.l))) (fun H5 hc s5 => ?_) fun H5 hc s5 => ?_
    · rw [el] at hc
      have hc : (!linkB b kw ws as zi l || decide (l.1 ∈ es)) = true := hc
      have hres : chainM b kw ws as ls (some z) [] = if (!linkB b kw ws as zi l || decide (l.1 ∈ es)) = true then false else chainM b kw ws as (ls.drop (i + 1)) l.2.2 (es ++ [l.1]) := hres
      rw [if_pos hc] at hres
      exact s_ret (S := S) (k := (kB : Kd K C _)) ev_bl fun v H' s' r' => q v H' (sc2.trans (s5.trans s')) (by rw [hres]; exact r')
    · rw [el] at hc
      have hc : (!linkB b kw ws as zi l || decide (l.1 ∈ es)) = false := hc
      have hres : chainM b kw ws as ls (some z) [] = if (!linkB b kw ws as zi l || decide (l.1 ∈ es)) = true then false else chainM b kw ws as (ls.drop (i + 1)) l.2.2 (es ++ [l.1]) := hres
      rw [hc, if_neg Bool.false_ne_true] at hres
      have hpe5 := s5 _ _ (sx _ _ hpe)
      have f5 := fc2.same s5
      refine ⟨_, rfl, .inl ⟨rfl, _, .inl (.inl hpe5)⟩, ?_⟩
      refine (ev_31 (ev_var rfl hv2 (Lf.same s5))).use fun u H6 s6 hu => ?_
      cases (show u = .int l.1 from hu)
      have f6 := f5.same s6
      have hpe6 := s6 _ _ hpe5
      have sxp : Sx C (p :: S) H6 (upd H6 p (.lst (es.map V.int ++ [.int l.1]))) := sx_upd f6 (by simp) trivial
      refine ⟨p, _, .int l.1, rfl, rfl, hpe6, szl (by rw [List.length_map]; omega), ?_⟩
      have lx : Lf K C (p :: S) H'' (p :: S) (upd H6 p (.lst (es.map V.int ++ [.int l.1]))) := (Lf.same s5).trans ((Lf.same s6).trans (.sx f6 sxp))
      refine s_set (ev_33 (ev_var rfl hv2 lx)) fun u7 H7 s7 hu7 => ?_
      refine ⟨u7, _, l.2.2, es ++ [l.1], rfl, (sameOwn (sc2.trans (s5.trans s6)) np0).trans s7, sxp.fr.same s7, lc.trans ((Lf.same sx).trans (lx.trans (.same s7))), hu7, ?_, ?_, hres⟩
      · refine s7 _ _ ?_
        rw [upd_same, List.map_append]
        rfl
      · rw [List.length_append, List.length_singleton]
        omega
  · rintro σ' H' ⟨w7, y9, zi, es, rfl, sc, fc, lc, h7, hpe, hl, hres⟩
    rw [List.drop_length, chainM] at hres
    exact s_ret (ev_isN (ev_var rfl h7 Lf.refl) nn_I) fun v H' s' r' => q v H' (sc.trans s') (by rw [hres]; exact r')
abbrev sBarred : Stmt := (top 16)
def sp_is_barred (K : PySem.W.Frag) (C : Addr) : Sp := spD (K := K) (C := C) (aC kBk (aC (kL (kT kI)) (aC (kL (kT kI)) (aC kI (aC (kT kI) aN))))) kB (fun (b , kw , ws , r , l , _) => (RowsIn b ws ∧ kw.length = ws.length) ∧ (0 ≤ r ∧ r < ws.length)) fun (b, kw, ws, r, l, _) => barB b kw ws r l
theorem scBarred : FnScope ["book", "kept", "rows", "reader", "works", "work"] ["book", "kept", "rows", "reader", "works"] (defScope sBarred) := ⟨rfl, rfl, rfl, by decide +kernel, rfl, by decide +kernel, by decide +kernel⟩
theorem c_is_barred (D : DefAt K mg "is_barred" sBarred ["book", "kept", "rows", "reader", "works"]) (B : Bi mg) (T : BkC P w K mg base C)  (c_can_take : C8.Cal P w K mg base 2 "can_take" (sp_can_take K C) []) (c_is_free : C8.Cal P w K mg base 2 "is_free" (sp_is_free K C) []) (c_loose_works : C8.Cal P w K mg base 1 "loose_works" (sp_loose_works K C) []) (Bany : mg "any" = none) : C8.Cal P w K mg base 3 "is_barred" (sp_is_barred K C) [] := by
  refine calD D scBarred rfl fun f cdv A outer s H vs Q E S a hr fr ha hp q => ?_
  obtain ⟨b, kw, ws, r, l, _⟩ := a
  obtain ⟨w_book, _, rfl, h_book, w_kept, _, rfl, h_kept, w_rows, _, rfl, h_rows, w_reader, _, rfl, h_reader, w_works, _, rfl, h_works, e⟩ := ha
  cases (show _ = [] from e)
  have h_book : (kBk : Kd K C _).rp S H w_book b := h_book
  have h_kept : ((kL (kT kI)) : Kd K C _).rp S H w_kept kw := h_kept
  have h_rows : ((kL (kT kI)) : Kd K C _).rp S H w_rows ws := h_rows
  have h_reader : (kI : Kd K C _).rp S H w_reader r := h_reader
  have h_works : ((kT kI) : Kd K C _).rp S H w_works l := h_works
  have ok_book := kBk.ok h_book
  have r6_book := ok_book.r6
  have n6_book := ok_book.n6
  have n1_book := ok_book.n1
  have n_kept := kL_len h_kept
  have n_rows := kL_len h_rows
  have n_works := kT_len h_works
  have q : ∀ v H', Same H H' → (kB : Kd K C _).rp S H' v (barB b kw ws r l) → Q v H' := q
  obtain ⟨⟨rin, hkl⟩, ir⟩ : (RowsIn b ws ∧ kw.length = ws.length) ∧ (0 ≤ r ∧ r < ws.length) := hp
  have ir2 : IsRd b ws r := ⟨ir, rin.len⟩
  refine ⟨_, (pss_cons (ps_if (pt_not (pt_val (pe_callB (cr_any rfl) (by rfl) Bany (by decide +kernel) (pa_cons (pe_lc (own := [("work", 5)]) (g := (gName 5)) (tt := tYes) (te := (tCall (sp_can_take K C) [] C8.E0 (tCons (tVar 0) (tCons (tVar 2) (tCons (tVar 3) (tCons (tVar 5) tNil)))))) rfl scBarred.nd (pi_tup (pv 4)) (blkOk_by (own := [("work", 5)]) (N := ["book", "kept", "rows", "reader", "works", "work"]) (sc := defScope sBarred) (by decide +kernel)) (fun _ _ _ _ _ => (pg_name (i := 5) scBarred.nd rfl (.inl rfl))) (fun _ _ _ _ _ => pts_nil) (fun _ _ _ _ _ => (C8.pe_c c_can_take hr (by decide) (by rfl) (pa_cons (pv 0) (pa_cons (pv 2) (pa_cons (pv 3) (pa_cons (pv 5) pa_nil))))))) pa_nil)))) (pss_one (ps_ret pe_bl)) pss_nil)
 (pss_cons (ps_if (pt_val (C8.pe_c c_is_free hr (by decide) (by rfl) (pa_cons (pv 0) (pa_cons (pv 2) (pa_cons (pv 3) pa_nil))))) (pss_one (ps_ret pe_bl)) pss_nil)
 (pss_one (ps_ret (pe_callB (cr_all rfl) (by rfl) B.all (by decide +kernel) (pa_cons (pe_lc (own := [("work", 5)]) (g := (gName 5)) (tt := tYes) (te := (tOp (rIn K false) (tVar 5) (tVar 4))) rfl scBarred.nd (pi_list (C8.pe_c c_loose_works hr (by decide) (by rfl) (pa_cons (pv 1) (pa_cons (pv 2) (pa_cons (pv 3) pa_nil))))) (blkOk_by (own := [("work", 5)]) (N := ["book", "kept", "rows", "reader", "works", "work"]) (sc := defScope sBarred) (by decide +kernel)) (fun _ _ _ _ _ => (pg_name (i := 5) scBarred.nd rfl (.inl rfl))) (fun _ _ _ _ _ => pts_nil) (fun _ _ _ _ _ => (pe_cmpR op_in_seq (pv 5) (pv 4) (by rfl)))) pa_nil)))))), ?_⟩
  try dsimp only [cxOf, Cx.nox, Cx.wish]
  exact q_if (evt_not (evt_b (ev_any (EvN.ev (evn_lc fr (evi_tup (ev_var rfl h_works Lf.refl)) (by omega) (fun y1 hy1 D1 v1 H1 l1 f1 hv1 => lcb_name rfl evt_yes (fun ht1 => (ev_call (eva_cons (ev_var rfl h_book l1) (eva_cons (ev_var rfl h_rows l1) (eva_cons (ev_var rfl h_reader l1) (eva_cons (ev_var rfl hv1 Lf.refl) eva_nil)))) f1 ir2)))))))) (fun H1_ b1 s1 => s_ret (Ev.to ev_bl (by unfold barB; rw [List.filter_eq_self.mpr (fun _ _ => rfl)] at b1; rw [List.any_map] at b1; have b1 : (!l.any fun z => canB b ws r z) = true := b1; rw [if_pos b1])) fun v H' s' r => q v H' (s1.trans s') r) fun H1_ b1 s1 =>
    q_if (evt_b (ev_call (eva_cons (ev_var rfl h_book (Lf.same s1)) (eva_cons (ev_var rfl h_rows (Lf.same s1)) (eva_cons (ev_var rfl h_reader (Lf.same s1)) eva_nil))) (fr.same s1) ir2)) (fun H2_ b2 s2 => s_ret (Ev.to ev_bl (by unfold barB; rw [List.filter_eq_self.mpr (fun _ _ => rfl)] at b1; rw [List.any_map] at b1; have b1 : (!l.any fun z => canB b ws r z) = false := b1; have b2 : freeB b ws r = true := b2; rw [b1, b2]; rfl)) fun v H' s' r => q v H' (s1.trans (s2.trans s')) r) fun H2_ b2 s2 =>
    s_ret (Ev.to (ev_all (EvN.ev (evn_lc ((fr.same s1).same s2) (evi_list (EvN.ev (evn_call (eva_cons (ev_var rfl h_kept (Lf.trans (Lf.same s1) (Lf.same s2))) (eva_cons (ev_var rfl h_rows (Lf.trans (Lf.same s1) (Lf.same s2))) (eva_cons (ev_var rfl h_reader (Lf.trans (Lf.same s1) (Lf.same s2))) eva_nil))) ((fr.same s1).same s2) ⟨ir, hkl⟩))) (by dsimp only; have := kWs_len h_rows _ (at_mem ir); exact Nat.le_trans (List.length_filter_le _ _) this) (fun y2 hy2 D2 v2 H2 l2 f2 hv2 => lcb_name rfl evt_yes (fun ht2 => (ev_in (ev_var rfl hv2 Lf.refl) (ev_var rfl h_works (Lf.trans (Lf.same s1) (Lf.trans (Lf.same s2) l2))) IsSq.t)))))) (by unfold barB; rw [List.filter_eq_self.mpr (fun _ _ => rfl)] at b1; rw [List.any_map] at b1; have b1 : (!l.any fun z => canB b ws r z) = false := b1; have b2 : freeB b ws r = false := b2; rw [b1, b2, List.filter_eq_self.mpr (fun _ _ => rfl), List.all_map]; rfl)) fun v H' s' r => q v H' (s1.trans (s2.trans s')) r
abbrev sClosedM : Stmt := (top 17)
def sp_is_closedM (K : PySem.W.Frag) (C : Addr) : Sp := spD (K := K) (C := C) (aC kBk (aC kWs (aC kWs (aC (kT kI) (aC kMd aN))))) kB (fun a => RowsIn a.1 a.2.2.1 ∧ a.2.1.length = a.2.2.1.length) fun a => closM a.1 a.2.1 a.2.2.1 a.2.2.2.1 a.2.2.2.2.1
theorem scClosedM : FnScope ["book", "kept", "rows", "absent", "value", "reader"] ["book", "kept", "rows", "absent", "value"] (defScope sClosedM) := ⟨rfl, rfl, rfl, by decide +kernel, rfl, by decide +kernel, by decide +kernel⟩
set_option maxHeartbeats 0 in
theorem c_is_closedM (D : DefAt K mg "is_closed" sClosedM ["book", "kept", "rows", "absent", "value"]) (B : Bi mg) (T : BkC P w K mg base C) (c_is_setM : C8.Cal P w K mg base 3 "is_set_of_works" (sp_is_setM K C) []) (c_is_barred : C8.Cal P w K mg base 3 "is_barred" (sp_is_barred K C) []) (c_present_readers : C8.Cal P w K mg base 2 "present_readers" (sp_present_readers K C) []) : C8.Cal P w K mg base 4 "is_closed" (sp_is_closedM K C) [] := by
  refine calD D scClosedM rfl fun f cdv A outer s H vs Q E S a hr fr ha hp q => ?_
  obtain ⟨b, kw, ws, as, m, _⟩ := a
  obtain ⟨w_book, _, rfl, h_book, w_kept, _, rfl, h_kept, w_rows, _, rfl, h_rows, w_absent, _, rfl, h_absent, w_value, _, rfl, h_valueM, e⟩ := ha
  cases (show _ = [] from e)
  obtain ⟨rin, hkl⟩ : RowsIn b ws ∧ kw.length = ws.length := hp
  have h_book : (kBk : Kd K C _).rp S H w_book b := h_book
  have h_kept : ((kL (kT kI)) : Kd K C _).rp S H w_kept kw := h_kept
  have h_rows : ((kL (kT kI)) : Kd K C _).rp S H w_rows ws := h_rows
  have h_absent : ((kT kI) : Kd K C _).rp S H w_absent as := h_absent
  have h_valueM : (kMd : Kd K C _).rp S H w_value m := h_valueM
  have pl := presB_len b as
  have r6 := (kBk.ok h_book).r6
  have q : ∀ v H', Same H H' → (kB : Kd K C _).rp S H' v (closM b kw ws as m) → Q v H' := q
  refine ⟨_, (pss_cons (ps_if (pt_not (pt_val (C8.pe_c c_is_setM hr (by decide) (by rfl) (pa_cons (pv 4) (pa_cons (pe_callB (call_lenBk T hr (by decide)) (by rfl) B.len PySem.boot_len (pa_cons (pv 0) pa_nil)) pa_nil))))) (pss_one (ps_ret pe_bl)) pss_nil)
 (pss_one (ps_ret (pe_callB (cr_all rfl) (by rfl) B.all (by decide +kernel) (pa_cons (pe_lc (own := [("reader", 5)]) (g := (gName 5)) (tt := tYes) (te := (tCall (sp_is_barred K C) [] C8.E0 (tCons (tVar 0) (tCons (tVar 1) (tCons (tVar 2) (tCons (tVar 5) (tCons (tVar 4) tNil))))))) rfl scClosedM.nd (pi_list (C8.pe_c c_present_readers hr (by decide) (by rfl) (pa_cons (pv 0) (pa_cons (pv 3) pa_nil)))) (blkOk_by (own := [("reader", 5)]) (N := ["book", "kept", "rows", "absent", "value", "reader"]) (sc := defScope sClosedM) (by decide +kernel)) (fun _ _ _ _ _ => (pg_name (i := 5) scClosedM.nd rfl (.inl rfl))) (fun _ _ _ _ _ => pts_nil) (fun _ _ _ _ _ => (C8.pe_c c_is_barred hr (by decide) (by rfl) (pa_cons (pv 0) (pa_cons (pv 1) (pa_cons (pv 2) (pa_cons (pv 5) (pa_cons (pv 4) pa_nil)))))))) pa_nil))))), ?_⟩
  try dsimp only [cxOf, Cx.nox, Cx.wish]
  have ecall := ev_call (E := C8.E0) (K := K) (C := C) (H := H) (S := S) (ks := (aC kMd (aC kI aN) : Ka K C _)) (kr := kB) (pre := fun _ => True) (g := fun a => setM a.2.1 a.1) (a := (m, ((b.ds.length : Nat) : Int), ())) (σ := [some w_book, some w_kept, some w_rows, some w_absent, some w_value, none]) (eva_cons (ev_var (i := 4) rfl h_valueM Lf.refl) (eva_cons (ev_lenBk (ev_var (i := 0) rfl h_book Lf.refl)) eva_nil)) fr trivial
  cases em : m.ints? with
  | none =>
    have e0 : closM b kw ws as m = false := by unfold closM; rw [em]
    have e1 : setM (b.ds.length : Nat) m = false := by unfold setM; rw [em]
    rw [e0] at q
    exact q_if (evt_not (evt_b ecall)) (fun H1 _ s1 => s_ret (S := S) (k := (kB : Kd K C _)) ev_bl fun v H' s' r => q v H' (s1.trans s') r) fun H1 hb _ => by
      have hb : (!setM (b.ds.length : Nat) m) = false := hb
      rw [e1] at hb; cases hb
  | some l =>
    have e0 : closM b kw ws as m = closB b kw ws as l := by unfold closM; rw [em]
    have e1 : setM (b.ds.length : Nat) m = setB (b.ds.length : Nat) l := by unfold setM; rw [em]
    rw [e0] at q
    have h_value : (kT kI : Kd K C _).rp S H w_value l := kMd_ints em h_valueM
    exact q_if (evt_not (evt_b ecall)) (fun H1_ b1 s1 => s_ret (Ev.to ev_bl (by have b1 : (!setM (b.ds.length : Nat) m) = true := b1; rw [e1] at b1; unfold closB; have b1 : setB b.ds.length l = false := (by simpa using b1); rw [b1]; rfl)) fun v H' s' r => q v H' (s1.trans s') r) fun H1_ b1 s1 =>
    s_ret (Ev.to (ev_all (EvN.ev (evn_lc (fr.same s1) (evi_list (EvN.ev (evn_call (eva_cons (ev_var rfl h_book (Lf.same s1)) (eva_cons (ev_var rfl h_absent (Lf.same s1)) eva_nil)) (fr.same s1) trivial))) (by dsimp only; omega) (fun y1 hy1 D1 v1 H1 l1 f1 hv1 => lcb_name rfl evt_yes (fun ht1 => (ev_call (eva_cons (ev_var rfl h_book (Lf.trans (Lf.same s1) l1)) (eva_cons (ev_var rfl h_kept (Lf.trans (Lf.same s1) l1)) (eva_cons (ev_var rfl h_rows (Lf.trans (Lf.same s1) l1)) (eva_cons (ev_var rfl hv1 Lf.refl) (eva_cons (ev_var rfl h_value (Lf.trans (Lf.same s1) l1)) eva_nil))))) f1 ⟨⟨rin, hkl⟩, (IsRd.of rin.len hy1).1⟩)))))) (by have b1 : (!setM (b.ds.length : Nat) m) = false := b1; rw [e1] at b1; unfold closB; have b1 : setB b.ds.length l = true := (by simpa using b1); rw [b1, List.filter_eq_self.mpr (fun _ _ => rfl), List.all_map]; rfl)) fun v H' s' r => q v H' (s1.trans s') r
abbrev sShutM : Stmt := (top 42)
def spShutM (K : PySem.W.Frag) (C : Addr) : Sp := spD (K := K) (C := C) (aC (kL kR) (aC kWs (aC kWs (aC (kT kI) (aC kMd (aC kI aN)))))) kB (fun a => (a.2.2.1.length = a.1.length ∧ a.2.1.length = a.2.2.1.length) ∧ a.2.2.2.2.1.len < 64) fun a => shutM a.1 a.2.1 a.2.2.1 a.2.2.2.1 a.2.2.2.2.1 a.2.2.2.2.2.1
theorem scShutM : FnScope ["readers", "kept", "rows", "absent", "value", "works", "at", "limit", "may", "lacks", "work", "outside"] ["readers", "kept", "rows", "absent", "value", "works"] (defScope sShutM) := ⟨rfl, rfl, rfl, by decide +kernel, rfl, by decide +kernel, by decide +kernel⟩
set_option maxHeartbeats 0 in
theorem c_law_shutM (D : DefAt K mg "_law_shut" sShutM ["readers", "kept", "rows", "absent", "value", "works"]) (B : Bi mg) (c_law_setM : C8.Cal P w K mg base 1 "_law_is_set" (spLSetM K C) []) (c__law_present : C8.Cal P w K mg base 1 "_law_present" (sp__law_present K C) []) : C8.Cal P w K mg base 2 "_law_shut" (spShutM K C) [] := by
  refine calD D scShutM rfl fun f cdv A outer s H vs Q E S a hr fr ha hp q => ?_
  obtain ⟨rs, kw, ws, as, m, n, _⟩ := a
  obtain ⟨w_readers, _, rfl, h_readers, w_kept, _, rfl, h_kept, w_rows, _, rfl, h_rows, w_absent, _, rfl, h_absent, w_value, _, rfl, h_valueM, w_works, _, rfl, h_works, e⟩ := ha
  cases (show _ = [] from e)
  have h_readers : ((kL (kP kI (kT kI))) : Kd K C _).rp S H w_readers rs := h_readers
  have h_kept : ((kL (kT kI)) : Kd K C _).rp S H w_kept kw := h_kept
  have h_rows : ((kL (kT kI)) : Kd K C _).rp S H w_rows ws := h_rows
  have h_absent : ((kT kI) : Kd K C _).rp S H w_absent as := h_absent
  have h_valueM : (kMd : Kd K C _).rp S H w_value m := h_valueM
  have h_works : (kI : Kd K C _).rp S H w_works n := h_works
  obtain ⟨⟨hwl, hkl⟩, hml⟩ : (ws.length = rs.length ∧ kw.length = ws.length) ∧ m.len < 64 := hp
  have q : ∀ v H', Same H H' → (kB : Kd K C _).rp S H' v (shutM rs kw ws as m n) → Q v H' := q
  refine ⟨_, (pss_cons (ps_if (pt_not (pt_val (C8.pe_c c_law_setM hr (by decide) (by rfl) (pa_cons (pv 4) (pa_cons (pv 5) pa_nil))))) (pss_one (ps_ret pe_bl)) pss_nil)
 (pss_cons (ps_for PassesOwn.never rfl (pi_list (C8.pe_c c__law_present hr (by decide) (by rfl) (pa_cons (pv 0) (pa_cons (pv 3) pa_nil)))) (pg_name (i := 6) scShutM.nd rfl (.inr rfl)) (pss_cons (ps_asg (pe_ix ix_list (pv 0) (pv 6) (fun _ _ => rfl)) (pg_tup (by rfl) (pgs_cons (pg_name (i := 7) scShutM.nd rfl (.inl rfl)) (pgs_cons (pg_name (i := 8) scShutM.nd rfl (.inl rfl)) pgs_nil))))
 (pss_cons (ps_setLc (i := 9) (own := [("work", 10)]) (g := (gName 10)) (tt := (tAnd (tTest (tOp (rIn K false) (tVar 10) (tVar 4))) (tTest (tOp (rIn K true) (tVar 10) (tOp (rIxL K) (tVar 2) (tVar 6)))))) (te := (tVar 10)) (by rfl) scShutM.nd rfl rfl (sw_true rfl rfl rfl (by decide +kernel)) (pi_tup (pv 8)) (blkOk_by (own := [("work", 10)]) (N := ["readers", "kept", "rows", "absent", "value", "works", "at", "limit", "may", "lacks", "work", "outside"]) (sc := defScope sShutM) (by decide +kernel)) (fun _ _ _ _ _ => (pg_name (i := 10) scShutM.nd rfl (.inl rfl))) (fun _ _ _ _ _ => pts_one (PW.pt (pw_and (pt_cmpR op_in_seq (pv 10) (pv 4) (by rfl)) (pw_and1 (pt_cmpR op_notIn_seq (pv 10) (pe_ix ix_list (pv 2) (pv 6) (fun _ _ => rfl)) (by rfl)))))) (fun _ _ _ _ _ => (pv 10)))
 (pss_cons (ps_setLc (i := 11) (own := [("work", 10)]) (g := (gName 10)) (tt := (tAnd (tTest (tOp (rIn K true) (tVar 10) (tVar 4))) (tTest (tOp (rIn K true) (tVar 10) (tOp (rIxL K) (tVar 1) (tVar 6)))))) (te := (tVar 10)) (by rfl) scShutM.nd rfl rfl (sw_true rfl rfl rfl (by decide +kernel)) (pi_tup (pe_ix ix_list (pv 2) (pv 6) (fun _ _ => rfl))) (blkOk_by (own := [("work", 10)]) (N := ["readers", "kept", "rows", "absent", "value", "works", "at", "limit", "may", "lacks", "work", "outside"]) (sc := defScope sShutM) (by decide +kernel)) (fun _ _ _ _ _ => (pg_name (i := 10) scShutM.nd rfl (.inl rfl))) (fun _ _ _ _ _ => pts_one (PW.pt (pw_and (pt_cmpR op_notIn_seq (pv 10) (pv 4) (by rfl)) (pw_and1 (pt_cmpR op_notIn_seq (pv 10) (pe_ix ix_list (pv 1) (pv 6) (fun _ _ => rfl)) (by rfl)))))) (fun _ _ _ _ _ => (pv 10)))
 (pss_one (ps_if (PW.pt (pw_and (pt_cmpR (op_neNil (Nat.lt_of_le_of_lt (Nat.le_add_right _ 64) hr.units)) (pv 9) (pe_lst pa_nil) (nomark _)) (pw_and1 (PW.pt (pw_or (pt_cmpR op_lt (pe_callB call_len_seq (by rfl) B.len PySem.boot_len (pa_cons (pe_ix ix_list (pv 2) (pv 6) (fun _ _ => rfl)) pa_nil)) (pv 7) (nomark _)) (pw_or1 (pt_cmpR (op_neNil (Nat.lt_of_le_of_lt (Nat.le_add_right _ 64) hr.units)) (pv 11) (pe_lst pa_nil) (nomark _)))))))) (pss_one (ps_ret pe_bl)) pss_nil))))))
 (pss_one (ps_ret pe_bl)))), ?_⟩
  try dsimp only [cxOf, Cx.nox, Cx.wish]
  have ecall := ev_call (E := C8.E0) (K := K) (C := C) (H := H) (S := S) (ks := (aC kMd (aC kI aN) : Ka K C _)) (kr := kB) (pre := fun a => a.1.len < 64) (g := fun a => lsetM a.2.1 a.1) (a := (m, n, ())) (σ := [some w_readers, some w_kept, some w_rows, some w_absent, some w_value, some w_works, none, none, none, none, none, none]) (eva_cons (ev_var (i := 4) rfl h_valueM Lf.refl) (eva_cons (ev_var (i := 5) rfl h_works Lf.refl) eva_nil)) fr hml
  cases em : m.ints? with
  | none =>
    have e0 : shutM rs kw ws as m n = false := by unfold shutM; rw [em]
    have e1 : lsetM n m = false := by unfold lsetM; rw [em]
    rw [e0] at q
    exact q_if (evt_not (evt_b ecall)) (fun H1 _ s1 => s_ret (S := S) (k := (kB : Kd K C _)) ev_bl fun v H' s' r => q v H' (s1.trans s') r) fun H1 hb _ => by
      have hb : (!lsetM n m) = false := hb
      rw [e1] at hb; cases hb
  | some l =>
    have e0 : shutM rs kw ws as m n = (setL n l && shutB rs kw ws as l) := by unfold shutM; rw [em]
    have e1 : lsetM n m = setL n l := by unfold lsetM; rw [em]
    rw [e0] at q
    have h_value : (kT kI : Kd K C _).rp S H w_value l := kMd_ints em h_valueM
    refine q_if (evt_not (evt_b ecall)) (fun H1_ b1 s1 => s_ret (Ev.to ev_bl (by have b1 : (!lsetM n m) = true := b1; rw [e1] at b1; have b1 : setL n l = false := (by simpa using b1); rw [b1]; rfl)) fun v H' s' r => q v H' (s1.trans s') r) fun H1_ b1 s1 => ?_
    have hS : setL n l = true := by have b1 : (!lsetM n m) = false := b1; rw [e1] at b1; simpa using b1
    rw [hS, Bool.true_and] at q
    exact
    s_for (kx := kI) (S := S) (evi_list (EvN.ev (evn_call (eva_cons (ev_var rfl h_readers (Lf.same s1)) (eva_cons (ev_var rfl h_absent (Lf.same s1)) eva_nil)) (fr.same s1) trivial))) fun HL2 sL2 => ⟨fun i2 σ' H' => ∃ y2_6 y2_7 y2_8 y2_9 y2_11 : Option V, σ' = [some w_readers, some w_kept, some w_rows, some w_absent, some w_value, some w_works, y2_6, y2_7, y2_8, y2_9, none, y2_11] ∧ Same HL2 H' ∧ ∀ x ∈ (presL rs as).take i2, (shutBad rs kw ws l) x = false, ⟨_, _, _, _, _, rfl, Same.refl _, fun x hx => by simp at hx⟩, fun i2 σ' H' h => by
      obtain ⟨_, _, _, _, _, _, h, _⟩ := h
      exact Lf.same h, fun i2 x2 σ' H' v2_ H'' hx2 h sX2 hv2_ => by
      obtain ⟨y2_6, y2_7, y2_8, y2_9, y2_11, rfl, sI2, hI2⟩ := h
      have hm1 := (presL_mem.mp (List.mem_of_getElem? hx2)).1
      exact q_set2 (ev_ixL (ev_var rfl h_readers (Lf.trans (Lf.same s1) (Lf.trans (Lf.same sL2) (Lf.trans (Lf.same sI2) (Lf.same sX2))))) (ev_var rfl hv2_ Lf.refl) (by first | omega | (dsimp only; omega))) fun a3_ b3_ H3_ s3 h30 h31 =>
    q_setN (evn_lc ((((((fr.same s1)).same sL2).same sI2).same sX2).same s3) (evi_tup (ev_var rfl h31 Lf.refl)) (by first | exact kRs_len h_readers _ (at_mem (by omega)) | exact kWs_len h_rows _ (at_mem (by omega))) (fun y1 hy1 D1 v1 H1 l1 f1 hv1 => lcb_name rfl (evt_and (evt_test (ev_in (ev_var rfl hv1 Lf.refl) (ev_var rfl h_value (Lf.trans (Lf.same s1) (Lf.trans (Lf.same sL2) (Lf.trans (Lf.same sI2) (Lf.trans (Lf.same sX2) (Lf.trans (Lf.same s3) l1)))))) IsSq.t)) (fun hc => (evt_test (ev_nin (ev_var rfl hv1 Lf.refl) (ev_ixL (ev_var rfl h_rows (Lf.trans (Lf.same s1) (Lf.trans (Lf.same sL2) (Lf.trans (Lf.same sI2) (Lf.trans (Lf.same sX2) (Lf.trans (Lf.same s3) l1)))))) (ev_var rfl hv2_ (Lf.trans (Lf.same s3) l1)) (by first | omega | (dsimp only; omega))) IsSq.t)))) (fun ht1 => (ev_var rfl hv1 Lf.refl)))) fun p4 H4_ n4 s4 h4 =>
    q_setN (evn_lc (((((((fr.same s1)).same sL2).same sI2).same sX2).same s3).same s4) (evi_tup (ev_ixL (ev_var rfl h_rows (Lf.trans (Lf.same s1) (Lf.trans (Lf.same sL2) (Lf.trans (Lf.same sI2) (Lf.trans (Lf.same sX2) (Lf.trans (Lf.same s3) (Lf.same s4))))))) (ev_var rfl hv2_ (Lf.trans (Lf.same s3) (Lf.same s4))) (by first | omega | (dsimp only; omega)))) (by first | exact kRs_len h_readers _ (at_mem (by omega)) | exact kWs_len h_rows _ (at_mem (by omega))) (fun y2 hy2 D2 v2 H2 l2 f2 hv2 => lcb_name rfl (evt_and (evt_test (ev_nin (ev_var rfl hv2 Lf.refl) (ev_var rfl h_value (Lf.trans (Lf.same s1) (Lf.trans (Lf.same sL2) (Lf.trans (Lf.same sI2) (Lf.trans (Lf.same sX2) (Lf.trans (Lf.same s3) (Lf.trans (Lf.same s4) l2))))))) IsSq.t)) (fun hc => (evt_test (ev_nin (ev_var rfl hv2 Lf.refl) (ev_ixL (ev_var rfl h_kept (Lf.trans (Lf.same s1) (Lf.trans (Lf.same sL2) (Lf.trans (Lf.same sI2) (Lf.trans (Lf.same sX2) (Lf.trans (Lf.same s3) (Lf.trans (Lf.same s4) l2))))))) (ev_var rfl hv2_ (Lf.trans (Lf.same s3) (Lf.trans (Lf.same s4) l2))) (by first | omega | (dsimp only; omega))) IsSq.t)))) (fun ht2 => (ev_var rfl hv2 Lf.refl)))) fun p5 H5_ n5 s5 h5 =>
    s_if (evt_and (evt_test (ev_neNil (ev_var rfl h4 (Lf.same s5)) ((((((((fr.same s1)).same sL2).same sI2).same sX2).same s3).same s4).same s5))) (fun hc => (evt_or (evt_test (ev_B2 (ev_len (ev_ixL (ev_var rfl h_rows (Lf.trans (Lf.same s1) (Lf.trans (Lf.same sL2) (Lf.trans (Lf.same sI2) (Lf.trans (Lf.same sX2) (Lf.trans (Lf.same s3) (Lf.trans (Lf.same s4) (Lf.same s5)))))))) (ev_var rfl hv2_ (Lf.trans (Lf.same s3) (Lf.trans (Lf.same s4) (Lf.same s5)))) (by first | omega | (dsimp only; omega))) IsSq.t) (ev_var rfl h30 (Lf.trans (Lf.same s4) (Lf.same s5))))) (fun hc => (evt_test (ev_neNil (ev_var rfl h5 Lf.refl) ((((((((fr.same s1)).same sL2).same sI2).same sX2).same s3).same s4).same s5))))))) (fun H6_ b6 s6 => s_ret (Ev.to ev_bl (by exact shut_no hx2 (by unfold shutBad lacksB outB; rw [List.map_id', List.map_id'] at b6; exact b6))) fun v H' s' r => q v H' (s1.trans (sL2.trans (sI2.trans (sX2.trans (s3.trans (s4.trans (s5.trans (s6.trans s')))))))) r) fun H6_ b6 s6 => ⟨_, _, _, _, _, rfl, (sI2.trans (sX2.trans (s3.trans (s4.trans (s5.trans s6))))), allT hI2 hx2 (by unfold shutBad lacksB outB; rw [List.map_id', List.map_id'] at b6; exact b6)⟩, fun σ' H' h => by
      obtain ⟨y2_6, y2_7, y2_8, y2_9, y2_11, rfl, sE2, hE2⟩ := h
      have hE2 : ∀ x ∈ (presL rs as), (shutBad rs kw ws l) x = false := fun x hx => hE2 x (by rw [List.take_of_length_le (Nat.le_refl _)]; exact hx)
      try dsimp only
      exact s_ret (Ev.to ev_bl (by exact shut_yes hE2)) fun v H' s' r => q v H' (s1.trans (sL2.trans (sE2.trans s'))) r⟩
abbrev sLNumA : Stmt := (top 40)
def spLNumA (K : PySem.W.Frag) (C : Addr) : Sp := spD (K := K) (C := C) (aC kAt (aC kI aN)) kB (fun _ => True) fun a => numA a.2.1 a.1
theorem scLNumA : FnScope ["value", "many"] ["value", "many"] (defScope sLNumA) := ⟨rfl, rfl, rfl, by decide +kernel, rfl, by decide +kernel, by decide +kernel⟩
theorem c_law_numA (D : DefAt K mg "_law_is_number" sLNumA ["value", "many"]) (B : Bi mg) : C8.Cal P w K mg base 1 "_law_is_number" (spLNumA K C) [] := by
  refine calD D scLNumA rfl fun f cdv A outer s H vs Q E S a hr fr ha hp q => ?_
  obtain ⟨x, n, _⟩ := a
  obtain ⟨w_value, _, rfl, h_value, w_many, _, rfl, h_many, e⟩ := ha
  cases (show _ = [] from e)
  have h_value : (kAt : Kd K C _).rp S H w_value x := h_value
  have h_many : (kI : Kd K C _).rp S H w_many n := h_many
  have q : ∀ v H', Same H H' → (kB : Kd K C _).rp S H' v (numA n x) → Q v H' := q
  refine ⟨_, (pss_cons (ps_if (PW.pt (pw_or (pt_not (pt_val (pe_callB call_isi (by rfl) B.isinstance (by decide +kernel) (pa_cons (pv 0) (pa_cons (pe_bltn (v := .ty "int") (by rfl) B.int (by decide +kernel) rfl) pa_nil))))) (pw_or1 (pt_val (pe_callB call_isi (by rfl) B.isinstance (by decide +kernel) (pa_cons (pv 0) (pa_cons (pe_bltn (v := .ty "bool") (by rfl) B.bool (by decide +kernel) rfl) pa_nil))))))) (pss_one (ps_ret pe_bl)) pss_nil) (pss_one (ps_ret (pe_chain op_le op_lt pe_int (pv 0) (pv 1))))), ?_⟩
  try dsimp only [cxOf, Cx.nox, Cx.wish]
  refine q_if (evt_odd (i := 0) rfl h_value) (fun H1 hb s1 => ?_) fun H1 hb s1 => ?_
  · have e0 : numA n x = false := by cases x <;> first | rfl | cases hb
    rw [e0] at q
    exact s_ret (S := S) (k := (kB : Kd K C _)) ev_bl fun v H' s' r => q v H' (s1.trans s') r
  · cases x with
    | int i =>
      have h_value : (kI : Kd K C _).rp S H w_value i := h_value
      exact s_ret (ev_chainA ev_int (ev_var (i := 0) rfl h_value (Lf.same s1)) (ev_var (i := 1) rfl h_many (Lf.same s1))) fun v H' s' r => q v H' (s1.trans s') r
    | non => cases hb
    | bl b => cases hb
    | str b => cases hb
    | emL => cases hb
    | emD => cases hb
end
end Ew
namespace Ew
open PySem PySem.Spec PyProof.Rows L2
theorem q_seqL {t u : TS} {D : Ends} {σ : L2.St} {H : Hp} (R : L2.St → Hp → Prop) (h1 : ∀ σ' H', R σ' H' → u D σ' H') (h2 : ∀ nx : L2.St → Hp → Prop, (∀ σ' H', R σ' H' → nx σ' H') → t { D with nx := nx } σ H) : tSeq t u D σ H := h2 _ h1
theorem lnk_r {r : Int} {y g : At} {l : Link} (h : lnk (.int r) y g = some l) : l.1 = r := by
  cases y <;> cases g <;> cases h <;> rfl
theorem lnk_t {r t : Int} {g : At} {l : Link} (h : lnk (.int r) (.int t) g = some l) : l.1 = r ∧ l.2.1 = t := by
  cases g <;> cases h <;> exact ⟨rfl, rfl⟩
theorem links_none {rs : List (Int × List Int)} {kw ws : List (List Int)} {as : List Int} {m : Md} {ms : List Md} {z : Int} {e : List Int} (h : ∀ l, m.link? = some l → linkL rs kw ws as z e l = false) : linksM rs kw ws as (m :: ms) z e = false := by
  rw [linksM]
  cases em : m.link? with
  | none => rfl
  | some l =>
    show (if linkL rs kw ws as z e l = true then _ else false) = false
    rw [h l em]
    rfl
theorem links_some {rs : List (Int × List Int)} {kw ws : List (List Int)} {as : List Int} {m : Md} {ms : List Md} {z : Int} {e : List Int} {l : Link} (em : m.link? = some l) (h : linkL rs kw ws as z e l = true) : linksM rs kw ws as (m :: ms) z e = linksM rs kw ws as ms (l.2.2.getD (-1)) (e ++ [l.1]) := by
  rw [linksM, em]
  show (if linkL rs kw ws as z e l = true then _ else _) = _
  rw [if_pos h]
section
variable {K : PySem.W.Frag} {C : Addr} {S : List Addr} {H : Hp} {σ : L2.St} {te ta tb : TE} {v : V} {i : Nat}
theorem ev_numA {a : At} {n : Int} (h : Ev (kAt (K := K) (C := C)) S H ta σ a) (g : Ev (K := K) (C := C) kI S H tb σ n) (fr : Fr C S H) : Ev (K := K) (C := C) kB S H (tCall (spLNumA K C) [] C8.E0 (tCons ta (tCons tb tNil))) σ (numA n a) :=
  ev_call (ks := (aC kAt (aC kI aN) : Ka K C _)) (kr := kB) (a := (a, n, ())) (eva_cons h (eva_cons g eva_nil)) fr trivial
theorem at_kO {g : At} {gv : Option Int} {r t : Int} (e : lnk (.int r) (.int t) g = some (r, t, gv)) (h : (kAt (K := K) (C := C)).rp S H v g) : (kO (kI (K := K) (C := C))).rp S H v gv := by
  cases g <;> cases e <;> exact h
end
section
variable {P : Program} {w : World} {K : PySem.W.Frag} {mg : Str → Option Value} {base : Heap} {C : Addr}
abbrev sLinksM : Stmt := (top 41)
def spLinksM (K : PySem.W.Frag) (C : Addr) : Sp := spD (K := K) (C := C) (aC (kL kR) (aC kWs (aC kWs (aC (kT kI) (aC kI (aC kTp aN)))))) kB (fun a => a.2.2.1.length = a.1.length ∧ a.2.1.length = a.2.2.1.length) fun a => linksT a.1 a.2.1 a.2.2.1 a.2.2.2.1 a.2.2.2.2.1 a.2.2.2.2.2.1
theorem scLinksM : FnScope ["readers", "kept", "rows", "absent", "work", "value", "seen", "link", "reader", "takes", "gives", "limit", "may"] ["readers", "kept", "rows", "absent", "work", "value"] (defScope sLinksM) := ⟨rfl, rfl, rfl, by decide +kernel, rfl, by decide +kernel, by decide +kernel⟩
set_option maxHeartbeats 0 in
theorem c_law_linksM (D : DefAt K mg "_law_links" sLinksM ["readers", "kept", "rows", "absent", "work", "value"]) (B : Bi mg) (c_law_numA : C8.Cal P w K mg base 1 "_law_is_number" (spLNumA K C) []) : C8.Cal P w K mg base 2 "_law_links" (spLinksM K C) [] := by
  refine calD D scLinksM rfl fun f cdv A outer s H vs Q E S a hr fr ha hp q => ?_
  obtain ⟨rs, kw, ws, as, z, tp, _⟩ := a
  obtain ⟨w_readers, _, rfl, h_readers, w_kept, _, rfl, h_kept, w_rows, _, rfl, h_rows, w_absent, _, rfl, h_absent, w_work, _, rfl, h_work, w_value, _, rfl, h_value, e⟩ := ha
  cases (show _ = [] from e)
  obtain ⟨hwl, hkl⟩ : ws.length = rs.length ∧ kw.length = ws.length := hp
  have h_readers : (kL kR : Kd K C _).rp S H w_readers rs := h_readers
  have h_kept : ((kL (kT kI)) : Kd K C _).rp S H w_kept kw := h_kept
  have h_rows : ((kL (kT kI)) : Kd K C _).rp S H w_rows ws := h_rows
  have h_absent : ((kT kI) : Kd K C _).rp S H w_absent as := h_absent
  have h_work : (kI : Kd K C _).rp S H w_work z := h_work
  have h_tp : (kTp : Kd K C _).rp S H w_value tp := h_value
  refine ⟨_, (pss_cons (ps_if (PW.pt (pw_or (pt_not (pt_val (pe_callB call_isi (by rfl) B.isinstance (by decide +kernel) (pa_cons (pv 5) (pa_cons (pe_bltn (v := .ty "list") (by rfl) B.list (by decide +kernel) rfl) pa_nil))))) (pw_or1 (pt_cmpR (op_eqNil (Nat.lt_of_le_of_lt (Nat.le_add_right _ 64) hr.units)) (pv 5) (pe_lst pa_nil) (nomark _))))) (pss_one (ps_ret pe_bl)) pss_nil)
 (pss_cons (ps_set (i := 6) scLinksM.nd rfl (.inl rfl) (pe_lst pa_nil))
 (pss_cons (ps_for PassesOwn.never rfl (pi_list (pv 5)) (pg_name (i := 7) scLinksM.nd rfl (.inl rfl)) (pss_cons (ps_if (PW.pt (pw_or (pt_not (pt_val (pe_callB call_isi (by rfl) B.isinstance (by decide +kernel) (pa_cons (pv 7) (pa_cons (pe_bltn (v := .ty "tuple") (by rfl) B.tuple (by decide +kernel) rfl) pa_nil))))) (pw_or1 (pt_cmpR op_ne (pe_callB call_len_seq (by rfl) B.len PySem.boot_len (pa_cons (pv 7) pa_nil)) pe_int (nomark _))))) (pss_one (ps_ret pe_bl)) pss_nil)
 (pss_cons (ps_asg (pv 7) (pg_tup (by rfl) (pgs_cons (pg_name (i := 8) scLinksM.nd rfl (.inl rfl)) (pgs_cons (pg_name (i := 9) scLinksM.nd rfl (.inl rfl)) (pgs_cons (pg_name (i := 10) scLinksM.nd rfl (.inl rfl)) pgs_nil)))))
 (pss_cons (ps_if (pt_not (pt_val (C8.pe_c c_law_numA hr (by decide) (by rfl) (pa_cons (pv 8) (pa_cons (pe_callB call_len_seq (by rfl) B.len PySem.boot_len (pa_cons (pv 0) pa_nil)) pa_nil))))) (pss_one (ps_ret pe_bl)) pss_nil)
 (pss_cons (ps_if (PW.pt (pw_or (pt_cmpR op_in_seq (pv 8) (pv 6) (by rfl)) (pw_or1 (pt_cmpR op_in_seq (pv 8) (pv 3) (by rfl))))) (pss_one (ps_ret pe_bl)) pss_nil)
 (pss_cons (ps_asg (pe_ix ix_list (pv 0) (pv 8) (fun _ _ => rfl)) (pg_tup (by rfl) (pgs_cons (pg_name (i := 11) scLinksM.nd rfl (.inl rfl)) (pgs_cons (pg_name (i := 12) scLinksM.nd rfl (.inl rfl)) pgs_nil))))
 (pss_cons (ps_if (PW.pt (pw_or (pt_not (pt_val (C8.pe_c c_law_numA hr (by decide) (by rfl) (pa_cons (pv 9) (pa_cons pe_int pa_nil))))) (pw_or1 (pt_cmpR op_ne (pv 9) (pv 4) (nomark _))))) (pss_one (ps_ret pe_bl)) pss_nil)
 (pss_cons (ps_if (PW.pt (pw_or (pt_cmpR op_notIn_seq (pv 9) (pv 12) (by rfl)) (pw_or1 (pt_cmpR op_in_seq (pv 9) (pe_ix ix_list (pv 2) (pv 8) (fun _ _ => rfl)) (by rfl))))) (pss_one (ps_ret pe_bl)) pss_nil)
 (pss_cons (ps_if (pt_cmpR op_isN (pv 10) pe_non (nomark _)) (pss_one (ps_if (pt_cmpR op_ge (pe_callB call_len_seq (by rfl) B.len PySem.boot_len (pa_cons (pe_ix ix_list (pv 2) (pv 8) (fun _ _ => rfl)) pa_nil)) (pv 11) (nomark _)) (pss_one (ps_ret pe_bl)) pss_nil)) (pss_one (ps_if (PW.pt (pw_or (pt_not (pt_val (C8.pe_c c_law_numA hr (by decide) (by rfl) (pa_cons (pv 10) (pa_cons pe_int pa_nil))))) (pw_or1 (pt_cmpR op_notIn_seq (pv 10) (pe_ix ix_list (pv 2) (pv 8) (fun _ _ => rfl)) (by rfl))))) (pss_one (ps_ret pe_bl)) (pss_one (ps_if (pt_cmpR op_in_seq (pv 10) (pe_ix ix_list (pv 1) (pv 8) (fun _ _ => rfl)) (by rfl)) (pss_one (ps_ret pe_bl)) pss_nil)))))
 (pss_cons (ps_expr (pe_bm PySem.F.plainAttrs_list PySem.F.slot_list_append PySem.F.type_list_append mt_append (pv 6) (pa_cons (pv 8) pa_nil)))
 (pss_one (ps_set (i := 4) scLinksM.nd rfl (.inl rfl) (pe_ifExp (pt_cmpR op_isN (pv 10) pe_non (nomark _)) (pe_un un_neg pe_int) (pv 10))))))))))))))
 (pss_one (ps_ret (pe_cmpR op_eq (pv 4) (pe_un un_neg pe_int) (nomark _))))))), ?_⟩
  dsimp only [cxOf, Cx.nox, Cx.wish]
  cases elv : tp.lv with
  | none => exact q_if (evt_or (c := true) (evt_not (evt_b (ev_isiTpL (i := 5) rfl h_tp))) fun hc => by rw [elv] at hc; cases hc) (fun H1 hc s1 => s_ret (S := S) (k := (kB : Kd K C _)) ev_bl fun v H' s' r' => q v H' (s1.trans s') (by show (kB : Kd K C _).rp S H' v (linksT rs kw ws as z tp); unfold linksT; rw [elv]; exact r')) fun H1 hc s1 => by rw [elv] at hc; cases hc
  | some ls =>
  have h_value : (kL kMd : Kd K C _).rp S H w_value ls := lv_rp elv h_tp
  have lsl := kL_len h_value
  have q : ∀ c H', Same H H' → c = (!ls.isEmpty && linksM rs kw ws as ls z []) → Q (.bl c) H' := fun c H' s r => q _ H' s (by show (kB : Kd K C _).rp S H' (.bl c) (linksT rs kw ws as z tp); unfold linksT; rw [elv]; rw [r]; rfl)
  refine q_if (evt_or (evt_not (evt_b (ev_isiTpL (i := 5) rfl h_tp))) fun _ => evt_test (ev_eqNil (ev_var (i := 5) rfl h_value Lf.refl) fr)) (fun H1 hc s1 => ?_) fun H1 hc s1 => ?_
  · rw [elv] at hc
    have hc : (!true || ls.isEmpty) = true := hc
    exact q false H1 s1 (by cases h : ls.isEmpty with
      | true => rfl
      | false => rw [h] at hc; cases hc)
  rw [elv] at hc
  have hne : ls.isEmpty = false := by
    have hc : (!true || ls.isEmpty) = false := hc
    simpa using hc
  rw [hne] at q
  have q : ∀ c H', Same H H' → c = linksM rs kw ws as ls z [] → Q (.bl c) H' := fun c H' s e => q c H' s (by rw [e]; rfl)
  have f1 := fr.same s1
  refine q_setN (evn_l0 (k := (kI : Kd K C _)) f1) fun p H3 np s3 h8 => ?_
  have s03 := s1.trans s3
  have np0 : H p = none := s1.free np
  obtain ⟨p', hpe, hpn, hp3, _⟩ := kL_ints h8
  cases hpe
  have lf : ∀ Hc, Same H Hc → Lf K C S H (p :: S) Hc := fun Hc s => ⟨fun k v x h => k.same s (k.new np0 h), s.tab⟩
  have f3 : Fr C (p :: S) H3 := fun a m => by
    rcases List.mem_cons.mp m with rfl | m
    · exact ⟨_, hp3, trivial⟩
    · exact (f1.same s3) a m
  refine s_for (kx := kMd) (S := p :: S) (evi_list (ev_var rfl h_value (lf H3 s03))) fun H4 s4 => ⟨fun i σ' H' => ∃ y7 y8 y9 y10 y11 y12 zi es, σ' = [some w_readers, some w_kept, some w_rows, some w_absent, some (.int zi), some w_value, some (.ref p), y7, y8, y9, y10, y11, y12] ∧ Same H H' ∧ Fr C (p :: S) H' ∧ Lf K C (p :: S) H4 (p :: S) H' ∧ H' p = some (.lst (es.map V.int)) ∧ es.length ≤ i ∧ linksM rs kw ws as ls z [] = linksM rs kw ws as (ls.drop i) zi es,
    ⟨none, none, none, none, none, none, z, [], (by cases (show w_work = .int z from h_work); rfl), s03.trans s4, f3.same s4, Lf.refl, s4 _ _ hp3, Nat.zero_le _, rfl⟩, fun i σ' H' h => let ⟨_, _, _, _, _, _, _, _, _, _, _, l, _⟩ := h; l, ?_, ?_⟩
  · rintro i m σ' H' v H'' hx ⟨y7, y8, y9, y10, y11, y12, zi, es, rfl, sc, fc, lc, hpe, hl, hres⟩ sx hv
    have hil : i < ls.length := by
      rcases Nat.lt_or_ge i ls.length with h | h
      · exact h
      · rw [List.getElem?_eq_none h] at hx; cases hx
    have hdrop : ls.drop i = m :: ls.drop (i + 1) := by
      rw [List.drop_eq_getElem_cons hil]
      rw [List.getElem?_eq_getElem hil] at hx
      cases hx
      rfl
    rw [hdrop] at hres
    have sc2 := sc.trans sx
    have fc2 := fc.same sx
    have hes : (kL kI : Kd K C _).rp S H'' (.ref p) es := ⟨p, _, rfl, hpn, sx _ _ hpe, paired_ints es, by omega⟩
    have fS : Fr C S H'' := fr.same sc2
    have hvM : (kMd : Kd K C _).rp S H'' v m := (kMd : Kd K C _).less (fun a m => by simp [m]) hv
    have ziE : ∀ {H5 : Hp} {σ : L2.St}, σ[4]? = some (some (.int zi)) → Ev (K := K) (C := C) kI S H5 (tVar 4) σ zi := fun e => ev_var e (show (kI : Kd K C _).rp S _ (.int zi) zi from rfl) Lf.refl
    have qf : (∀ l, m.link? = some l → linkL rs kw ws as zi es l = false) → ∀ H5, Same H'' H5 → Q (.bl false) H5 := fun h H5 s5 => q false H5 (sc2.trans s5) (by rw [hres, links_none h])
    cases m with
    | «at» a => exact q_if (evt_or (c := true) (evt_not (evt_b (ev_isiMd (i := 7) rfl hvM))) fun hc => by cases hc) (fun H1 _ s1 => qf (fun l e => by cases e) H1 s1) fun H1 hb _ => by cases hb
    | lst a => exact q_if (evt_or (c := true) (evt_not (evt_b (ev_isiMd (i := 7) rfl hvM))) fun hc => by cases hc) (fun H1 _ s1 => qf (fun l e => by cases e) H1 s1) fun H1 hb _ => by cases hb
    | tup l =>
    have hl3 : (kT (kAt : Kd K C _)).rp S H'' v l := hvM
    refine q_if (evt_or (evt_not (evt_b (ev_isiMd (i := 7) rfl hvM))) fun hc => evt_test (ev_neI (ev_lenT (ev_var (i := 7) rfl hl3 Lf.refl)) ev_int)) (fun H5 hb s5 => ?_) fun H5 hb s5 => ?_
    · have hb : (!true || !decide (((l.length : Nat) : Int) = 3)) = true := hb
      exact qf (fun l2 e => by rw [link_not3 (by simpa using hb)] at e; cases e) H5 s5
    have hb : (!true || !decide (((l.length : Nat) : Int) = 3)) = false := hb
    obtain ⟨x, y, g, rfl⟩ := len3 (l := l) (by simpa using hb)
    refine q_unp3A (i := 7) (j := 8) (m := 9) (n := 10) rfl ((kT kAt).same s5 hl3) fun v1 v2 v3 r1 r2 r3 => ?_
    try dsimp only [List.set]
    have s05 := sc2.trans s5
    have f5 := fS.same s5
    -- the reader
    cases hx1 : x.asInt? with
    | none =>
      exact q_if (evt_not (evt_b (ev_numA (ev_var (i := 8) rfl r1 Lf.refl) (ev_lenL (ev_var (i := 0) rfl h_readers (Lf.same s05))) f5))) (fun H6 _ s6 => qf (fun l e => by rw [show (Md.tup [x, y, g]).link? = none from lnk1 hx1] at e; cases e) H6 (s5.trans s6)) fun H6 hb _ => by
        have hb : (!numA (rs.length : Nat) x) = false := hb
        rw [show numA (rs.length : Nat) x = false from by unfold numA; rw [hx1]] at hb
        cases hb
    | some r =>
    cases At.of_int hx1
    refine q_if (evt_not (evt_b (ev_numA (ev_var (i := 8) rfl r1 Lf.refl) (ev_lenL (ev_var (i := 0) rfl h_readers (Lf.same s05))) f5))) (fun H6 hb s6 => ?_) fun H6 hb s6 => ?_
    · have hb : (!(decide (0 ≤ r) && decide (r < (rs.length : Nat)))) = true := hb
      refine qf (fun l e => ?_) H6 (s5.trans s6)
      unfold linkL
      rw [lnk_r e, show (decide (0 ≤ r) && decide (r < ((rs.length : Nat) : Int))) = false from by
        cases h : (decide (0 ≤ r) && decide (r < ((rs.length : Nat) : Int))) with
        | false => rfl
        | true => rw [h] at hb; cases hb]
      rfl
    have hrR : (decide (0 ≤ r) && decide (r < ((rs.length : Nat) : Int))) = true := by
      have hb : (!(decide (0 ≤ r) && decide (r < (rs.length : Nat)))) = false := hb
      simpa using hb
    have ir : 0 ≤ r ∧ r < (rs.length : Nat) := by simpa using hrR
    have r1 : (kI : Kd K C _).rp S H5 v1 r := r1
    have s06 := s05.trans s6
    have f6 := f5.same s6
    refine q_if (evt_or (evt_test (ev_in (ev_var (i := 8) rfl r1 (Lf.same s6)) (ev_var (i := 6) rfl hes (Lf.same (s5.trans s6))) IsSq.l)) fun _ => evt_test (ev_in (ev_var (i := 8) rfl r1 (Lf.same s6)) (ev_var (i := 3) rfl h_absent (Lf.same s06)) IsSq.t)) (fun H7 hb s7 => ?_) fun H7 hb s7 => ?_
    · have hb : (decide (r ∈ es) || decide (r ∈ as)) = true := hb
      refine qf (fun l e => ?_) H7 (s5.trans (s6.trans s7))
      unfold linkL
      rw [lnk_r e, hb, hrR]
      rfl
    have hrS : (decide (r ∈ es) || decide (r ∈ as)) = false := hb
    have s07 := s06.trans s7
    have f7 := f6.same s7
    refine q_set2 (i := 11) (j := 12) (ev_ixL (k := kR) (ev_var (i := 0) rfl h_readers (Lf.same s07)) (ev_var (i := 8) rfl r1 (Lf.same (s6.trans s7))) ir) fun v11 v12 H8 s8 r11 r12 => ?_
    try dsimp only [List.set]
    have r11 : (kI : Kd K C _).rp S H8 v11 (at_ rs r).1 := r11
    have r12 : (kT kI : Kd K C _).rp S H8 v12 (at_ rs r).2 := r12
    have s08 := s07.trans s8
    have s58 := s6.trans (s7.trans s8)
    have f8 := f7.same s8
    -- what it takes
    cases hy1 : y.asInt? with
    | none =>
      exact q_if (evt_or (c := true) (evt_not (evt_b (ev_numA (ev_var (i := 9) rfl r2 (Lf.same s58)) ev_int f8))) fun hc => by
        have hc : (!numA 6 y) = false := hc
        rw [show numA 6 y = false from by unfold numA; rw [hy1]] at hc
        cases hc) (fun H9 _ s9 => qf (fun l e => by rw [show (Md.tup [.int r, y, g]).link? = none from lnk2 hy1] at e; cases e) H9 (s5.trans (s58.trans s9))) fun H9 hb _ => by
        have hb : (!numA 6 y || true) = false := hb
        simp at hb
    | some t =>
    cases At.of_int hy1
    have r2i : (kI : Kd K C _).rp S H5 v2 t := r2
    refine q_if (evt_or (evt_not (evt_b (ev_numA (ev_var (i := 9) rfl r2 (Lf.same s58)) ev_int f8))) fun _ => evt_test (ev_neI (ev_var (i := 9) rfl r2i (Lf.same s58)) (ziE rfl))) (fun H9 hb s9 => ?_) fun H9 hb s9 => ?_
    · have hb : (!(decide (0 ≤ t) && decide (t < 6)) || !decide (t = zi)) = true := hb
      refine qf (fun l e => ?_) H9 (s5.trans (s58.trans s9))
      have hb2 : ((decide (0 ≤ t) && decide (t < 6)) && decide (t = zi)) = false := by
        cases h1 : (decide (0 ≤ t) && decide (t < 6)) <;> cases h2 : decide (t = zi) <;> rw [h1, h2] at hb <;> first | rfl | cases hb
      unfold linkL
      rw [(lnk_t e).1, (lnk_t e).2, hb2]
      simp
    have hT : ((decide (0 ≤ t) && decide (t < 6)) && decide (t = zi)) = true := by
      have hb : (!(decide (0 ≤ t) && decide (t < 6)) || !decide (t = zi)) = false := hb
      cases h1 : (decide (0 ≤ t) && decide (t < 6)) <;> cases h2 : decide (t = zi) <;> rw [h1, h2] at hb <;> first | rfl | cases hb
    have s09 := s08.trans s9
    have s59 := s58.trans s9
    have f9 := f8.same s9
    refine q_if (evt_or (evt_test (ev_nin (ev_var (i := 9) rfl r2i (Lf.same s59)) (ev_var (i := 12) rfl r12 (Lf.same s9)) IsSq.t)) fun _ => evt_test (ev_in (ev_var (i := 9) rfl r2i (Lf.same s59)) (ev_ixL (k := kT kI) (ev_var (i := 2) rfl h_rows (Lf.same s09)) (ev_var (i := 8) rfl r1 (Lf.same s59)) (by omega)) IsSq.t)) (fun H10 hb s10 => ?_) fun H10 hb s10 => ?_
    · have hb : (!decide (t ∈ (at_ rs r).2) || decide (t ∈ at_ ws r)) = true := hb
      refine qf (fun l e => ?_) H10 (s5.trans (s59.trans s10))
      have hb2 : (decide (t ∈ (at_ rs r).2) && !decide (t ∈ at_ ws r)) = false := by
        cases h1 : decide (t ∈ (at_ rs r).2) <;> cases h2 : decide (t ∈ at_ ws r) <;> rw [h1, h2] at hb <;> first | rfl | cases hb
      unfold linkL
      rw [(lnk_t e).1, (lnk_t e).2, hb2]
      simp
    have hM : (decide (t ∈ (at_ rs r).2) && !decide (t ∈ at_ ws r)) = true := by
      have hb : (!decide (t ∈ (at_ rs r).2) || decide (t ∈ at_ ws r)) = false := hb
      cases h1 : decide (t ∈ (at_ rs r).2) <;> cases h2 : decide (t ∈ at_ ws r) <;> rw [h1, h2] at hb <;> first | rfl | cases hb
    have s010 := s09.trans s10
    have s510 := s59.trans s10
    have f10 := f9.same s10
    have r310 := (kAt : Kd K C _).same s510 r3
    have qg : ∀ gv, lnk (.int r) (.int t) g = some (r, t, gv) → giveL kw ws (at_ rs r).1 r gv = false → ∀ H5, Same H'' H5 → Q (.bl false) H5 := fun gv e hg H5 s5 => qf (fun l e2 => by
      have e3 : (r, t, gv) = l := Option.some.inj (e.symm.trans e2)
      subst e3
      unfold linkL
      dsimp only
      rw [hg]
      simp) H5 s5
    -- what it gives
    refine q_seqL (fun σ' Hz => ∃ gv, lnk (.int r) (.int t) g = some (r, t, gv) ∧ giveL kw ws (at_ rs r).1 r gv = true ∧ σ' = [some w_readers, some w_kept, some w_rows, some w_absent, some (.int zi), some w_value, some (.ref p), some v, some v1, some v2, some v3, some v11, some v12] ∧ Same H10 Hz) ?_ fun nx hn => ?_
    rotate_left
    · refine s_if (evt_test (ev_isNA (ev_var (i := 10) rfl r310 Lf.refl))) (fun H11 hc s11 => ?_) fun H11 hc s11 => ?_
      · have hg : g = .non := of_decide_eq_true hc
        subst hg
        refine s_if (evt_test (ev_B2 (f := fun i j => decide (j ≤ i)) (ev_len (ev_ixL (k := kT kI) (ev_var (i := 2) rfl h_rows (Lf.same (s010.trans s11))) (ev_var (i := 8) rfl r1 (Lf.same (s510.trans s11))) (by omega)) IsSq.t) (ev_var (i := 11) rfl r11 (Lf.same (s9.trans (s10.trans s11)))))) (fun H12 hc s12 => ?_) fun H12 hc s12 => ?_
        · refine qg none rfl ?_ H12 (s5.trans (s510.trans (s11.trans s12)))
          have hc := of_decide_eq_true hc
          exact decide_eq_false (by omega)
        · refine hn _ _ ⟨none, rfl, ?_, rfl, s11.trans s12⟩
          have hc := of_decide_eq_false hc
          exact decide_eq_true (by omega)
      · have hg : g ≠ .non := of_decide_eq_false hc
        have r311 := (kAt : Kd K C _).same s11 r310
        have f11 := f10.same s11
        have s011 := s010.trans s11
        have s511 := s510.trans s11
        cases hg1 : g.asInt? with
        | none =>
          exact s_if (evt_or (c := true) (evt_not (evt_b (ev_numA (ev_var (i := 10) rfl r311 Lf.refl) ev_int f11))) fun hc => by
            have hc : (!numA 6 g) = false := hc
            rw [show numA 6 g = false from by unfold numA; rw [hg1]] at hc
            cases hc) (fun H12 _ s12 => qf (fun l e => by rw [show (Md.tup [.int r, .int t, g]).link? = none from lnk3 hg1 hg] at e; cases e) H12 (s5.trans (s511.trans s12))) fun H12 hb _ => by
            have hb : (!numA 6 g || true) = false := hb
            simp at hb
        | some gi =>
        cases At.of_int hg1
        have r3i : (kI : Kd K C _).rp S H11 v3 gi := r311
        refine s_if (evt_or (evt_not (evt_b (ev_numA (ev_var (i := 10) rfl r311 Lf.refl) ev_int f11))) fun _ => evt_test (ev_nin (ev_var (i := 10) rfl r3i Lf.refl) (ev_ixL (k := kT kI) (ev_var (i := 2) rfl h_rows (Lf.same s011)) (ev_var (i := 8) rfl r1 (Lf.same s511)) (by omega)) IsSq.t)) (fun H12 hb s12 => ?_) fun H12 hb s12 => ?_
        · have hb : (!(decide (0 ≤ gi) && decide (gi < 6)) || !decide (gi ∈ at_ ws r)) = true := hb
          refine qg (some gi) rfl ?_ H12 (s5.trans (s511.trans s12))
          unfold giveL
          dsimp only
          cases h1 : (decide (0 ≤ gi) && decide (gi < 6)) <;> cases h2 : decide (gi ∈ at_ ws r) <;> rw [h1, h2] at hb <;> first | rfl | cases hb
        · have hb1 : (!(decide (0 ≤ gi) && decide (gi < 6)) || !decide (gi ∈ at_ ws r)) = false := hb
          refine s_if (evt_test (ev_in (ev_var (i := 10) rfl r3i (Lf.same s12)) (ev_ixL (k := kT kI) (ev_var (i := 1) rfl h_kept (Lf.same (s011.trans s12))) (ev_var (i := 8) rfl r1 (Lf.same (s511.trans s12))) (by omega)) IsSq.t)) (fun H13 hb s13 => ?_) fun H13 hb s13 => ?_
          · have hb : decide (gi ∈ at_ kw r) = true := hb
            refine qg (some gi) rfl ?_ H13 (s5.trans (s511.trans (s12.trans s13)))
            unfold giveL
            dsimp only
            rw [hb]
            simp
          · have hb : decide (gi ∈ at_ kw r) = false := hb
            refine hn _ _ ⟨some gi, rfl, ?_, rfl, s11.trans (s12.trans s13)⟩
            unfold giveL
            dsimp only
            rw [hb]
            cases h1 : (decide (0 ≤ gi) && decide (gi < 6)) <;> cases h2 : decide (gi ∈ at_ ws r) <;> rw [h1, h2] at hb1 <;> first | rfl | cases hb1
    rintro σ' Hz ⟨gv, elk, hgv, rfl, sz⟩
    have hL : linkL rs kw ws as zi es (r, t, gv) = true := by
      unfold linkL
      dsimp only
      rw [hrR, hrS, hT, hM, hgv]
      rfl
    have hres2 := hres.trans (links_some (m := .tup [.int r, .int t, g]) elk hL)
    have s5z := s510.trans sz
    have hpeZ := s5z _ _ (s5 _ _ (sx _ _ hpe))
    have fZ := (fc2.same s5).same s5z
    refine ⟨_, rfl, .inl ⟨rfl, _, .inl (.inl hpeZ)⟩, ?_⟩
    have r1Z := (kI : Kd K C _).same s5z r1
    cases (show v1 = .int r from r1Z)
    refine ⟨_, rfl, ?_⟩
    have sxp : Sx C (p :: S) Hz (upd Hz p (.lst (es.map V.int ++ [.int r]))) := sx_upd fZ (by simp) trivial
    refine ⟨p, _, .int r, rfl, rfl, hpeZ, szl (by rw [List.length_map]; omega), ?_⟩
    have lx : Lf K C (p :: S) Hz (p :: S) (upd Hz p (.lst (es.map V.int ++ [.int r]))) := .sx fZ sxp
    have r3Z : (kO kI : Kd K C _).rp S Hz v3 gv := at_kO elk ((kAt : Kd K C _).same s5z r3)
    have r3P : (kO kI : Kd K C _).rp (p :: S) (upd Hz p (.lst (es.map V.int ++ [.int r]))) v3 gv := by cases gv <;> exact r3Z
    refine s_set (k := (kI : Kd K C _)) (S := p :: S) (x := gv.getD (-1)) (ev_if (k := (kI : Kd K C _)) (evt_test (ev_isN (k := (kI : Kd K C _)) (y := gv) (ev_var (i := 10) rfl r3P Lf.refl) nn_I)) (x := -1) (y := gv.getD (-1)) (fun _ => ev_neg ev_int) (fun hb => ?_) |>.to (by cases gv <;> rfl)) fun u4 H14 s14 r14 => ?_
    · cases gv with
      | none => cases hb
      | some g' => exact ev_var (i := 10) (k := (kI : Kd K C _)) rfl r3P Lf.refl
    cases (show u4 = .int (gv.getD (-1)) from r14)
    refine ⟨_, _, _, _, _, _, gv.getD (-1), es ++ [r], rfl, (sameOwn (sc2.trans (s5.trans s5z)) np0).trans s14, sxp.fr.same s14, lc.trans ((Lf.same sx).trans ((Lf.same s5).trans ((Lf.same s5z).trans (lx.trans (.same s14))))), ?_, ?_, hres2⟩
    · refine s14 _ _ ?_
      rw [upd_same, List.map_append]
      rfl
    · rw [List.length_append, List.length_singleton]
      omega
  · rintro σ' H' ⟨y7, y8, y9, y10, y11, y12, zi, es, rfl, sc, fc, lc, hpe, hl, hres⟩
    rw [List.drop_length, linksM] at hres
    exact s_ret (S := S) (k := (kB : Kd K C _)) (x := decide (zi = -1)) (ev_eqI (ev_var (i := 4) (k := (kI : Kd K C _)) (S' := S) (H0 := H') (x := zi) rfl rfl Lf.refl) (ev_neg ev_int)) fun v H' s' r' => by
      cases (show v = .bl _ from r')
      exact q _ H' (sc.trans s') hres.symm
end
end Ew
namespace Ew
open PySem PySem.Spec PyProof.Rows L2
section
variable {b : Bk} {kw ws : List (List Int)} {as : List Int}
theorem RowsOk.row_rg (hws : RowsOk b ws) (ok : DsOk b.ds b.rs) {r : Int} (h : 0 ≤ r ∧ r < (b.rs.length : Int)) : ∀ x ∈ at_ ws r, 0 ≤ x ∧ x < 6 := fun x hx => by
  have n6 := ok.n6
  have m := at_mem (l := b.rs) (i := r) h
  have rk := hws.2 r ⟨h.1, by rw [hws.1]; exact h.2⟩
  have := (ok.ok _ m).2.2.2 x (rk.2.1 x hx)
  omega
theorem link_eq (ok : DsOk b.ds b.rs) (hws : RowsOk b ws) {zo : Option Int} {e : List Int} {l : Link} : linkL b.rs kw ws as (zo.getD (-1)) e l = (linkB b kw ws as zo l && !decide (l.1 ∈ e)) := by
  obtain ⟨r, t, gv⟩ := l
  have n6 := ok.n6
  rw [Bool.eq_iff_iff]
  unfold linkL linkB
  simp only [Bool.and_eq_true, Bool.not_eq_true', Bool.or_eq_false_iff, decide_eq_true_eq, decide_eq_false_iff_not]
  constructor
  · rintro ⟨⟨r0, r1⟩, ⟨re, ra⟩, ⟨⟨t0, t6⟩, tz⟩, ⟨tm, tw⟩, hg⟩
    refine ⟨⟨?_, ?_, ?_⟩, re⟩
    · cases zo with
      | none => exfalso; have tz : t = -1 := tz; omega
      | some z => rw [show t = z from tz]
    · exact List.mem_filter.mpr ⟨presB_mem.mpr ⟨⟨r0, r1⟩, ra⟩, by unfold canB; rw [decide_eq_true tm, decide_eq_false tw]; rfl⟩
    · cases gv with
      | none => exact hg
      | some g =>
        have hg : ((decide (0 ≤ g) && decide (g < 6)) && (decide (g ∈ at_ ws r) && !decide (g ∈ at_ kw r))) = true := hg
        obtain ⟨_, h2⟩ := Bool.and_eq_true_iff.mp hg
        obtain ⟨h3, h4⟩ := Bool.and_eq_true_iff.mp h2
        exact decide_eq_true (List.mem_filter.mpr ⟨of_decide_eq_true h3, h4⟩)
  · rintro ⟨⟨tz, tk, hg⟩, re⟩
    obtain ⟨hp, hc⟩ := List.mem_filter.mp tk
    obtain ⟨ir, ra⟩ := presB_mem.mp hp
    unfold canB at hc
    obtain ⟨h1, h2⟩ := Bool.and_eq_true_iff.mp hc
    have tm := of_decide_eq_true h1
    have tw : t ∉ at_ ws r := by simpa using h2
    have tr := (ok.ok _ (at_mem (l := b.rs) (i := r) ir)).2.2.2 t tm
    refine ⟨ir, ⟨re, ra⟩, ⟨⟨by omega, by omega⟩, ?_⟩, ⟨tm, tw⟩, ?_⟩
    · cases zo with
      | none => cases tz
      | some z => exact Option.some.inj tz
    · cases gv with
      | none => exact hg
      | some g =>
        obtain ⟨h3, h4⟩ := List.mem_filter.mp (of_decide_eq_true (show decide (g ∈ looseB kw ws r) = true from hg))
        have rg := hws.row_rg ok ir g h3
        show ((decide (0 ≤ g) && decide (g < 6)) && (decide (g ∈ at_ ws r) && !decide (g ∈ at_ kw r))) = true
        rw [decide_eq_true rg.1, decide_eq_true rg.2, decide_eq_true h3, h4]
        rfl
theorem chain_links (ok : DsOk b.ds b.rs) (hws : RowsOk b ws) : ∀ (ms : List Md) (zo : Option Int) (e : List Int), (∀ g, zo = some g → 0 ≤ g) → chainM b kw ws as ms zo e = linksM b.rs kw ws as ms (zo.getD (-1)) e
  | [], zo, e, h => by
    rw [chainM, linksM]
    cases zo with
    | none => rfl
    | some g =>
      have := h g rfl
      exact (decide_eq_false (by show ¬ g = -1; omega)).symm
  | m :: ms, zo, e, h => by
    rw [chainM, linksM]
    cases em : m.link? with
    | none => rfl
    | some l =>
      show (if (!linkB b kw ws as zo l || decide (l.1 ∈ e)) = true then false else chainM b kw ws as ms l.2.2 (e ++ [l.1])) = (if linkL b.rs kw ws as (zo.getD (-1)) e l = true then linksM b.rs kw ws as ms (l.2.2.getD (-1)) (e ++ [l.1]) else false)
      rw [link_eq ok hws]
      cases hB : linkB b kw ws as zo l with
      | false => rfl
      | true =>
        cases he : decide (l.1 ∈ e) with
        | true => rfl
        | false =>
          show chainM b kw ws as ms l.2.2 (e ++ [l.1]) = linksM b.rs kw ws as ms (l.2.2.getD (-1)) (e ++ [l.1])
          refine chain_links ok hws ms l.2.2 _ fun g eg => ?_
          unfold linkB at hB
          obtain ⟨_, h2⟩ := Bool.and_eq_true_iff.mp hB
          obtain ⟨h3, h4⟩ := Bool.and_eq_true_iff.mp h2
          rw [eg] at h4
          obtain ⟨h5, _⟩ := List.mem_filter.mp (of_decide_eq_true (show decide (g ∈ looseB kw ws l.1) = true from h4))
          have ir := (presB_mem.mp (List.mem_filter.mp (of_decide_eq_true h3)).1).1
          exact (hws.row_rg ok ir g h5).1
theorem chainT_links (ok : DsOk b.ds b.rs) (hws : RowsOk b ws) {z : Int} (hz : 0 ≤ z) (tp : Tp) : chainT b kw ws as z tp = linksT b.rs kw ws as z tp := by
  unfold chainT linksT
  cases tp.lv with
  | none => rfl
  | some l =>
    show chainM b kw ws as l (some z) [] = (!l.isEmpty && linksM b.rs kw ws as l z [])
    rw [chain_links ok hws l (some z) [] (fun g e => by cases e; exact hz)]
    cases l with
    | nil => rw [linksM]; exact decide_eq_false (by show ¬ z = -1; omega)
    | cons m ms => rfl
theorem bar_shut {l : List Int} {r : Int} : barB b kw ws r l = !shutBad b.rs kw ws l r := by
  have e1 : (l.any fun z => canB b ws r z) = !(lacksB b.rs ws l r).isEmpty := by
    rw [Bool.eq_iff_iff]
    constructor
    · intro h
      obtain ⟨z, hz, hc⟩ := List.any_eq_true.mp h
      unfold canB at hc
      obtain ⟨h1, h2⟩ := Bool.and_eq_true_iff.mp hc
      have m : z ∈ lacksB b.rs ws l r := List.mem_filter.mpr ⟨of_decide_eq_true h1, by rw [decide_eq_true hz, h2]; rfl⟩
      cases hl : lacksB b.rs ws l r with
      | nil => rw [hl] at m; cases m
      | cons a t => rfl
    · intro h
      cases hl : lacksB b.rs ws l r with
      | nil => rw [hl] at h; cases h
      | cons a t =>
        have m : a ∈ lacksB b.rs ws l r := by rw [hl]; simp
        obtain ⟨h1, h2⟩ := List.mem_filter.mp m
        obtain ⟨h3, h4⟩ := Bool.and_eq_true_iff.mp h2
        exact List.any_eq_true.mpr ⟨a, of_decide_eq_true h3, by unfold canB; rw [decide_eq_true h1, h4]; rfl⟩
  have e2 : ((looseB kw ws r).all fun z => decide (z ∈ l)) = (outB kw ws l r).isEmpty := by
    rw [Bool.eq_iff_iff]
    constructor
    · intro h
      rw [List.isEmpty_iff]
      refine List.filter_eq_nil_iff.mpr fun z hz hc => ?_
      obtain ⟨h3, h4⟩ := Bool.and_eq_true_iff.mp hc
      have := List.all_eq_true.mp h z (List.mem_filter.mpr ⟨hz, h4⟩)
      rw [this] at h3
      cases h3
    · intro h
      rw [List.isEmpty_iff] at h
      refine List.all_eq_true.mpr fun z hz => ?_
      obtain ⟨h1, h2⟩ := List.mem_filter.mp hz
      have := List.filter_eq_nil_iff.mp h z h1
      rw [h2, Bool.and_true] at this
      simpa using this
  unfold barB shutBad freeB
  rw [e1, e2]
  cases (lacksB b.rs ws l r).isEmpty <;> cases decide (((at_ ws r).length : Int) < (at_ b.rs r).1) <;> cases (outB kw ws l r).isEmpty <;> rfl
theorem set_eqL {n : Nat} {l : List Int} : setB (n : Int) l = setL (n : Int) l := by
  cases h : setL (n : Int) l with
  | true =>
    have rg := setL_rg h
    unfold setL at h
    simp only [Bool.and_eq_true, decide_eq_true_eq] at h
    unfold setB
    rw [show ascI (n : Int) (-1) l = true from ascI_iff.mpr ⟨h.2.1, fun x hx => by have := rg x hx; omega⟩]
    exact decide_eq_true (by have := List.length_pos_iff.mpr h.1; omega)
  | false =>
    cases h1 : setB (n : Int) l with
    | false => rfl
    | true =>
      unfold setB at h1
      obtain ⟨h2, h3⟩ := Bool.and_eq_true_iff.mp h1
      have a1 := ascI_iff.mp h2
      have := (set_law (n := n) (l := l) (allSets_mem.mpr ⟨fun e => (by rw [e] at h3; simp at h3), a1.1, fun x hx => by have := a1.2 x hx; omega⟩)).1
      rw [this] at h
      cases h
theorem clos_shut (m : Md) : closM b kw ws as m = shutM b.rs kw ws as m (b.ds.length : Nat) := by
  unfold closM shutM
  cases m.ints? with
  | none => rfl
  | some l =>
    show closB b kw ws as l = (setL (b.ds.length : Nat) l && shutB b.rs kw ws as l)
    unfold closB
    rw [set_eqL]
    congr 1
    unfold shutB
    show ((presL b.rs as).all fun r => barB b kw ws r l) = _
    congr 1
    funext r
    exact bar_shut
end
end Ew
namespace Ew
open PySem PySem.Spec PyProof.Rows L2
def sepC (c : Nat) : Bool := c == 40 || c == 41 || c == 44 || c == 32
def cpsL (s : Str) : List Nat := s.cps.toList
def adom : List At := [.non, .bl true, .bl false, .int (-1), .int 0, .int 1, .int 2, .int 3, .int 4, .int 5, .int 6, .str "0", .str "", .emL, .emD, .int (10 ^ 20), .int (-7)]
def atOkB (a : At) : Bool := (cpsL a.py.shown).all (fun c => !sepC c) && (!(cpsL a.py.shown).isEmpty && (a.py.showable && (decide (a.py.depth ≤ 1) && decide (a.py.shown.length ≤ 30))))
theorem adom_ok : ∀ a ∈ adom, atOkB a = true := by decide +kernel
theorem at_sm {a : At} (h : a ∈ adom) : Sm 1 30 a.py := by
  have h1 := adom_ok a h
  unfold atOkB at h1
  obtain ⟨h2, h3⟩ := Bool.and_eq_true_iff.mp h1
  obtain ⟨h4, h5⟩ := Bool.and_eq_true_iff.mp h3
  obtain ⟨h6, h7⟩ := Bool.and_eq_true_iff.mp h5
  obtain ⟨h8, h9⟩ := Bool.and_eq_true_iff.mp h7
  exact ⟨h6, of_decide_eq_true h8, of_decide_eq_true h9⟩
theorem dig_mem {i : Int} (h : 0 ≤ i ∧ i ≤ 6) : i ∈ ([0, 1, 2, 3, 4, 5, 6] : List Int) ∧ At.int i ∈ adom := by
  have : i = 0 ∨ i = 1 ∨ i = 2 ∨ i = 3 ∨ i = 4 ∨ i = 5 ∨ i = 6 := by omega
  rcases this with rfl | rfl | rfl | rfl | rfl | rfl | rfl <;> exact ⟨by decide, by decide⟩
/-- drawn values: few items, each an atom of these -/
def MdOk : Md → Prop
  | .at a => a ∈ adom
  | .tup l => l.length ≤ 20 ∧ ∀ a ∈ l, a ∈ adom
  | .lst l => l.length ≤ 20 ∧ ∀ a ∈ l, a ∈ adom
theorem md_sm {m : Md} (h : MdOk m) : Sm 2 700 m.py := by
  cases m with
  | «at» a => exact (at_sm h).mono (by decide) (by decide)
  | tup l =>
    refine (sm_tuple (n := 1) (b := 30) fun d hd => ?_).mono (Nat.le_refl _) ?_
    · obtain ⟨a, ha, rfl⟩ := List.mem_map.mp hd
      exact at_sm (h.2 a ha)
    · rw [List.length_map]; have := h.1; omega
  | lst l =>
    refine (sm_list (n := 1) (b := 30) fun d hd => ?_).mono (Nat.le_refl _) ?_
    · obtain ⟨a, ha, rfl⟩ := List.mem_map.mp hd
      exact at_sm (h.2 a ha)
    · rw [List.length_map]; have := h.1; omega
section
variable {K : PySem.W.Frag} {C : Addr} {S : List Addr} {H : Hp} {σ : L2.St} {te : TE}
theorem ev_reprMd {m : Md} (ok : MdOk m) (h : Ev (kMd (K := K) (C := C)) S H te σ m) : Ev (K := K) (C := C) kS S H (tCB (rReprQ K) (tCons te tNil)) σ m.py.shown := fun H1 s Q q => h H1 s _ fun v H2 s2 r => by
  have sm := md_sm ok
  exact ⟨PT, v, m.py, rfl, dq_md (C := C) (S := S) r, sm.can, Nat.le_trans sm.dep (by decide), Nat.le_trans sm.len (szL (by omega)), q _ H2 s2 rfl⟩
end
end Ew
namespace Ew
open PySem PySem.Spec PyProof.Rows L2
theorem iota_up (n : Int) : (iota n).Pairwise (· < ·) := by
  unfold iota
  rw [List.pairwise_map]
  exact List.pairwise_lt_range.imp fun h => by omega
end Ew
namespace Ew
open PySem PySem.Spec PyProof.Rows L2
section
variable {K : PySem.W.Frag} {C : Addr} {α β : Type} {k : Kd K C α} {k1 : Kd K C β} {S : List Addr} {H : Hp} {σ : L2.St} {te ta tb : TE} {t : TA} {x : α} {xs : List α} {i p : Nat} {D : Ends} {u : TS}
def EvLs (k : Kd K C α) (S : List Addr) (H : Hp) (t : TA) (σ : L2.St) (xs : List α) : Prop := ∀ H1, Same H H1 → ∀ Q : List V → Hp → Prop, (∀ vs H2, Same H1 H2 → Paired (k.rp S H2) vs xs → Q vs H2) → t σ H1 Q
theorem evl_nil : EvLs k S H tNil σ [] := fun H1 _ Q q => q [] H1 (Same.refl _) .nil
theorem evl_cons (h : Ev k S H ta σ x) (g : EvLs k S H t σ xs) : EvLs k S H (tCons ta t) σ (x :: xs) := fun H1 s Q q =>
  h H1 s _ fun v H2 s2 r => g H2 (s.trans s2) _ fun vs H3 s3 rs => q _ H3 (s2.trans s3) (.cons (k.same s3 r) rs)
theorem evn_lst (h : EvLs k S H t σ xs) (fr : Fr C S H) (hl : xs.length ≤ 1000000 := by simp) : EvN (kL k) S H (tLst t) σ xs := fun H1 s Q q =>
  h H1 s _ fun vs H2 s2 r => ⟨Nat.le_of_lt (szl (by rw [pLen r]; exact hl)), fun p hn => q _ _ (s2.free hn) (s2.trans (sameU hn)) ⟨p, vs, rfl, (fr.same (s.trans s2)).out hn, upd_same, L2.Paired.mapP r fun _ _ z => k.same (sameU hn) z, hl⟩⟩
theorem ev_tupD (h : EvLs k S H t σ xs) (hl : xs.length ≤ 1000000 := by simp) : Ev (kT k) S H (tTup t) σ xs := fun H1 s Q q =>
  h H1 s _ fun vs H2 s2 r => ⟨Nat.le_of_lt (szl (by rw [pLen r]; exact hl)), fun p hn => q _ _ (s2.trans (sameU hn)) ⟨p, vs, rfl, .inl (.inl upd_same), L2.Paired.mapP r fun _ _ z => k.same (sameU hn) z, hl⟩⟩
end
end Ew
namespace Ew
open PySem PySem.Spec PyProof.Rows L2
theorem ev_takeTq {K : PySem.W.Frag} {C : Addr} {α : Type} {k : Kd K C α} {S : List Addr} {H : Hp} {σ : L2.St} {ta tb : TE} {l : List α} {e : Int} (h : Ev (kT k) S H ta σ l) (g : Ev (K := K) (C := C) kI S H tb σ e) (he : 0 ≤ e) : Ev (kT k) S H (tSl (rSl1 K) ta tNoPart (tPart tb)) σ (l.take e.toNat) := fun H1 s Q q => h H1 s _ fun v H2 s2 r => g H2 (s.trans s2) _ fun w H3 s3 r3 => by
  cases (show w = .int e from r3)
  obtain ⟨a, us, rfl, hA, hP, hl⟩ := r
  have ec : cutV us none (some e) = us.take e.toNat := by
    unfold cutV
    have e1 : HT.sIx us.length 0 none = 0 := rfl
    have e2 : HT.sIx us.length us.length (some e) = min e.toNat us.length := by
      show (if e < 0 then (e + (us.length : Nat)).toNat else min e.toNat us.length) = _
      rw [if_neg (by omega)]
    rw [e1, e2, List.drop_zero, Nat.sub_zero]
    rcases Nat.le_total e.toNat us.length with h | h
    · rw [Nat.min_eq_left h]
    · rw [Nat.min_eq_right h, List.take_length, List.take_of_length_le h]
  refine ⟨e, rfl, a, us, rfl, sameT s3 hA, fun p H' s4 hT => ?_⟩
  rw [ec] at hT
  exact q _ H' (s2.trans (s3.trans s4)) ⟨p, _, rfl, hT, Paired.take _ (L2.Paired.mapP hP fun _ _ z => k.same (s3.trans s4) z), by rw [List.length_take]; omega⟩
section
variable {K : PySem.W.Frag} {C : Addr} {α : Type} {k : Kd K C α} {S : List Addr} {H : Hp} {σ : L2.St} {ta tb te : TE} {l : List α} {x : α}
theorem ev_dropTq {e : Int} (h : Ev (kT k) S H ta σ l) (g : Ev (K := K) (C := C) kI S H tb σ e) (he : 0 ≤ e) : Ev (kT k) S H (tSl (rSl1 K) ta (tPart tb) tNoPart) σ (l.drop e.toNat) := fun H1 s Q q => h H1 s _ fun v H2 s2 r => g H2 (s.trans s2) _ fun w H3 s3 r3 => by
  cases (show w = .int e from r3)
  obtain ⟨a, us, rfl, hA, hP, hl⟩ := r
  have ec : cutV us (some e) none = us.drop e.toNat := by
    obtain ⟨n, rfl⟩ := Int.eq_ofNat_of_zero_le he
    exact cut_from us n
  refine ⟨e, rfl, a, us, rfl, sameT s3 hA, fun p H' s4 hT => ?_⟩
  rw [ec] at hT
  exact q _ H' (s2.trans (s3.trans s4)) ⟨p, _, rfl, hT, Paired.drop _ (L2.Paired.mapP hP fun _ _ z => k.same (s3.trans s4) z), by rw [List.length_drop]; omega⟩
theorem ev_initTq (h : Ev (kT k) S H ta σ l) : Ev (kT k) S H (tSl (rSl1 K) ta tNoPart (tPart (tUn (rU fun i => .int (-i)) (tC (.int 1))))) σ l.dropLast := fun H1 s Q q => h H1 s _ fun v H2 s2 r => by
  obtain ⟨a, us, rfl, hA, hP, hl⟩ := r
  have ec : cutV us none (some (-1)) = us.dropLast := by
    unfold cutV
    have e1 : HT.sIx us.length 0 none = 0 := rfl
    have e2 : HT.sIx us.length us.length (some (-1)) = us.length - 1 := by
      show (if (-1 : Int) < 0 then ((-1 : Int) + (us.length : Nat)).toNat else min (-1 : Int).toNat us.length) = _
      rw [if_pos (by omega)]
      omega
    rw [e1, e2, List.drop_zero, Nat.sub_zero, List.dropLast_eq_take]
  refine ⟨1, rfl, -1, rfl, a, us, rfl, hA, fun p H' s4 hT => ?_⟩
  rw [ec, List.dropLast_eq_take] at hT
  refine q _ H' (s2.trans s4) ⟨p, _, rfl, hT, ?_, by rw [List.length_dropLast]; omega⟩
  rw [List.dropLast_eq_take, ← pLen hP]
  exact Paired.take _ (L2.Paired.mapP hP fun _ _ z => k.same s4 z)
theorem ev_revTq (h : Ev (kT k) S H ta σ l) : Ev (kT k) S H (tRevT K ta) σ l.reverse := fun H1 s Q q => h H1 s _ fun v H2 s2 r => by
  obtain ⟨a, us, rfl, hA, hP, hl⟩ := r
  refine ⟨a, us, rfl, hA, fun p np => q _ _ (s2.trans (sameU np)) ⟨p, _, rfl, .inl (.inl upd_same), L2.Paired.mapP (Paired.rev hP) fun _ _ z => k.same (sameU np) z, by rw [List.length_reverse]; exact hl⟩⟩
theorem ev_aN : Ev (K := K) (C := C) kAt S H (tC .non) σ .non := fun H1 _ Q q => q _ H1 (Same.refl _) rfl
theorem ev_aB {b : Bool} : Ev (K := K) (C := C) kAt S H (tC (.bl b)) σ (.bl b) := fun H1 _ Q q => q _ H1 (Same.refl _) rfl
theorem ev_aS {s : Str} : Ev (K := K) (C := C) kAt S H (tC (.str s)) σ (.str s) := fun H1 _ Q q => q _ H1 (Same.refl _) rfl
theorem ev_aI {i : Int} (h : Ev (K := K) (C := C) kI S H te σ i) : Ev (K := K) (C := C) kAt S H te σ (.int i) := fun H1 s Q q => h H1 s Q fun v H2 s2 r => q v H2 s2 r
theorem ev_aL (fr : Fr C S H) : Ev (K := K) (C := C) kAt S H (tLst tNil) σ .emL := fun H1 s Q q => (EvN.ev (evn_l0 (k := (kI : Kd K C _)) fr)) H1 s Q fun v H2 s2 r => by
  obtain ⟨a, us, rfl, n, hA, hP, _⟩ := r
  cases hP
  exact q _ H2 s2 ⟨a, rfl, n, hA⟩
theorem ev_aD (fr : Fr C S H) : Ev (K := K) (C := C) kAt S H tDNewK σ .emD := fun H1 s Q q p np => q _ _ (sameU np) ⟨p, rfl, (fr.same s).out np, upd_same⟩
theorem ev_mA {a : At} (h : Ev (K := K) (C := C) kAt S H te σ a) : Ev (K := K) (C := C) kMd S H te σ (.at a) := fun H1 s Q q => h H1 s Q fun v H2 s2 r => q v H2 s2 r
theorem ev_mT {a : List At} (h : Ev (K := K) (C := C) (kT kAt) S H te σ a) : Ev (K := K) (C := C) kMd S H te σ (.tup a) := fun H1 s Q q => h H1 s Q fun v H2 s2 r => q v H2 s2 r
theorem ev_mL {a : List At} (h : Ev (K := K) (C := C) (kL kAt) S H te σ a) : Ev (K := K) (C := C) kMd S H te σ (.lst a) := fun H1 s Q q => h H1 s Q fun v H2 s2 r => q v H2 s2 r
theorem ev_tM {a : Md} (h : Ev (K := K) (C := C) kMd S H te σ a) : Ev (K := K) (C := C) kTp S H te σ (.md a) := fun H1 s Q q => h H1 s Q fun v H2 s2 r => q v H2 s2 r
theorem ev_tT {a : List Md} (h : Ev (K := K) (C := C) (kT kMd) S H te σ a) : Ev (K := K) (C := C) kTp S H te σ (.tup a) := fun H1 s Q q => h H1 s Q fun v H2 s2 r => q v H2 s2 r
theorem ev_tL {a : List Md} (h : Ev (K := K) (C := C) (kL kMd) S H te σ a) : Ev (K := K) (C := C) kTp S H te σ (.lst a) := fun H1 s Q q => h H1 s Q fun v H2 s2 r => q v H2 s2 r
theorem ev_atT {a : List Int} (h : Ev (K := K) (C := C) (kT kI) S H te σ a) : Ev (K := K) (C := C) (kT kAt) S H te σ (a.map At.int) := fun H1 s Q q => h H1 s Q fun v H2 s2 r => q v H2 s2 (kT_at r)
end
section
variable {P : Program} {w : World} {K : PySem.W.Frag} {mg : Str → Option Value} {base : Heap} {C CH SB RE : Addr}
def Adm (l : List At) : Prop := l.length ≤ 12 ∧ ∀ a ∈ l, a ∈ adom
theorem Adm.sub {l m : List At} (h : Adm l) (hl : m.length ≤ l.length) (hm : ∀ a ∈ m, a ∈ l) : Adm m := ⟨Nat.le_trans hl h.1, fun a ha => h.2 a (hm a ha)⟩
theorem Adm.ok {l : List At} (h : Adm l) : MdOk (.tup l) := ⟨Nat.le_trans h.1 (by decide), h.2⟩
end
end Ew
namespace Ew
open PySem PySem.Spec PyProof.Rows L2
section
variable {P : Program} {w : World} {K : PySem.W.Frag} {mg : Str → Option Value} {base : Heap} {C CH SB RE : Addr}
abbrev sNearS : Stmt := (top 45)
theorem scNearS : FnScope ["feed", "works", "value", "one", "at", "some"] ["feed", "works", "value"] (defScope sNearS) := ⟨rfl, rfl, rfl, by decide +kernel, rfl, by decide +kernel, by decide +kernel⟩
def spNearS (K : PySem.W.Frag) (C : Addr) : Sp := fun vs H Q _ => ∃ f v l n, vs = [.ref f, .int n, v] ∧ FeedAt H f ∧ (kT (kI (K := K) (C := C))).rp [f] H v l ∧ (l.length ≤ 6 ∧ ∀ x ∈ l, 0 ≤ x ∧ x ≤ 6) ∧ (0 ≤ n ∧ n ≤ 6) ∧ ∀ u H' m, Ext1 f H H' → (kMd (K := K) (C := C)).rp [f] H' u m → MdOk m → Q u H'
set_option maxHeartbeats 0 in
theorem c__law_near_set (D : DefAt K mg "_law_near_set" sNearS ["feed", "works", "value"]) (B : Bi mg) (c__law_take : C8.Cal P w K mg base 1 "_law_take" spTake []) (c__law_pick : C8.Cal P w K mg base 2 "_law_pick" (spPick K) []) : C8.Cal P w K mg base 3 "_law_near_set" (spNearS K C) [] := by
  refine cal_of D scNearS (fun vs H Q E h => by obtain ⟨f, v, l, n, rfl, _⟩ := h; rfl) fun f0 cdv A outer s H vs Q E hr h => ?_
  obtain ⟨f, v, l, n, rfl, hf, hv, ⟨l6, lx⟩, hn, q⟩ := h
  refine ⟨_, (pss_cons (ps_set (i := 3) scNearS.nd rfl (.inl rfl) (C8.pe_c c__law_pick hr (by decide) (by rfl) (pa_cons (pv 0) (pa_cons (pe_lst (pa_cons pe_non (pa_cons pe_bl (pa_cons pe_bl (pa_cons (pe_un un_neg pe_int) (pa_cons pe_int (pa_cons pe_int (pa_cons pe_int (pa_cons (pv 1) (pa_cons pe_str (pa_cons (pe_lst pa_nil) pa_nil))))))))))) pa_nil))))
 (pss_cons (ps_set (i := 4) scNearS.nd rfl (.inl rfl) (C8.pe_c c__law_take hr (by decide) (by rfl) (pa_cons (pv 0) (pa_cons (pe_op op_add (pe_callB call_len_seq (by rfl) B.len PySem.boot_len (pa_cons (pv 2) pa_nil)) pe_int) pa_nil))))
 (pss_cons (ps_set (i := 5) scNearS.nd rfl (.inl rfl) (pe_lst (pa_cons (pe_slice sl_tup1 (pv 2) (po_some pe_int) po_none) (pa_cons (pe_slice sl_tup1 (pv 2) po_none (po_some (pe_un un_neg pe_int))) (pa_cons (pe_revT (pv 2)) (pa_cons (pe_callTy call_list_of (by rfl) B.list (by decide +kernel) (pa_cons (pv 2) pa_nil)) (pa_cons (pe_op op_cat1 (pe_op op_cat1 (pe_slice sl_tup1 (pv 2) po_none (po_some (pv 4))) (pe_tup (pa_cons (pv 3) pa_nil))) (pe_slice sl_tup1 (pv 2) (po_some (pv 4)) po_none)) (pa_cons (pe_op op_cat1 (pv 2) (pe_slice sl_tup1 (pv 2) po_none (po_some pe_int))) (pa_cons pe_non pa_nil)))))))))
 (pss_one (ps_ret (C8.pe_c c__law_pick hr (by decide) (by rfl) (pa_cons (pv 0) (pa_cons (pe_op op_cat (pv 5) (pe_lst (pa_cons (pe_op op_cat1 (pe_op op_cat1 (pe_slice sl_tup1 (pv 2) po_none (po_some (pv 4))) (pe_tup (pa_cons (pv 3) pa_nil))) (pe_slice sl_tup1 (pv 2) (po_some (pe_op op_add (pv 4) pe_int)) po_none)) (pa_cons (pe_tup pa_nil) (pa_cons pe_int (pa_cons pe_str (pa_cons pe_dnewK pa_nil))))))) pa_nil)))))))), ?_⟩
  try dsimp only [cxOf, Cx.nox, Cx.wish]
  have fr : Fr C [f] H := fr_feed hf
  refine q_setF (f := f) (i := 3) (evf_pick (K := K) (C := C) (k := kAt) (i := 0) (l := [.non, .bl true, .bl false, .int (-1), .int 0, .int 1, .int 2, .int n, .str "0", .emL]) rfl hf (EvN.ev (evn_lst (k := (kAt : Kd K C _)) (xs := [.non, .bl true, .bl false, .int (-1), .int 0, .int 1, .int 2, .int n, .str "0", .emL]) (evl_cons ev_aN (evl_cons ev_aB (evl_cons ev_aB (evl_cons (ev_aI (ev_neg ev_int)) (evl_cons (ev_aI ev_int) (evl_cons (ev_aI ev_int) (evl_cons (ev_aI ev_int) (evl_cons (ev_aI (ev_var (i := 1) (k := kI) (S' := [f]) (H0 := H) (x := n) rfl rfl Lf.refl)) (evl_cons ev_aS (evl_cons (ev_aL fr) evl_nil)))))))))) fr)) (by simp) (by simp)) fun v3 H1 one e1 h3 hm => ?_
  try dsimp only [List.set]
  have ho : one ∈ adom := by
    simp only [List.mem_cons, List.not_mem_nil, or_false] at hm
    rcases hm with rfl | rfl | rfl | rfl | rfl | rfl | rfl | rfl | rfl | rfl
    case inr.inr.inr.inr.inr.inr.inr.inl => exact (dig_mem hn).2
    all_goals decide +kernel
  have hv1 := (lf_ext fr (by simp) e1).go _ _ _ hv
  have fr1 : Fr C [f] H1 := fr_feed e1.feed
  refine q_setF (f := f) (i := 4) (evf_take (K := K) (C := C) (i := 0) rfl e1.feed (ev_I2 (f := fun i j => i + j) (ev_lenT (ev_var (i := 2) rfl hv1 Lf.refl)) ev_int) (by omega) (by omega)) fun v4 H2 at_ e2 r4 p4 => ?_
  cases (show v4 = .int at_ from r4)
  try dsimp only [List.set]
  have fr2 : Fr C [f] H2 := fr_feed e2.feed
  have l12 := lf_ext (K := K) fr1 (by simp) e2
  have hv2 := l12.go _ _ _ hv1
  have h32 := l12.go _ _ _ h3
  have vE : ∀ {H3 : Hp} {σ : L2.St}, Lf K C [f] H2 [f] H3 → σ[2]? = some (some v) → Ev (K := K) (C := C) (kT kAt) [f] H3 (tVar 2) σ (l.map At.int) := fun lf e => ev_atT (ev_var e hv2 lf)
  have oE : ∀ {H3 : Hp} {σ : L2.St}, Lf K C [f] H2 [f] H3 → σ[3]? = some (some v3) → Ev (K := K) (C := C) (kT kAt) [f] H3 (tTup (tCons (tVar 3) tNil)) σ [one] := fun lf e => ev_t1 (k := kAt) (ev_var e h32 lf)
  have aE : ∀ {H3 : Hp} {σ : L2.St}, σ[4]? = some (some (.int at_)) → Ev (K := K) (C := C) kI [f] H3 (tVar 4) σ at_ := fun e => ev_var e (show (kI (K := K) (C := C)).rp [f] _ (.int at_) at_ from rfl) Lf.refl
  have am : Adm (l.map At.int) := ⟨by rw [List.length_map]; omega, fun a ha => by
    obtain ⟨x, hx, rfl⟩ := List.mem_map.mp ha
    exact (dig_mem (lx x hx)).2⟩
  have lm : (l.map At.int).length = l.length := List.length_map ..
  have mid : ∀ (m1 m2 : List At), (∀ a ∈ m1, a ∈ l.map At.int) → (∀ a ∈ m2, a ∈ l.map At.int) → m1.length ≤ 6 → m2.length ≤ 6 → MdOk (.tup (m1 ++ [one] ++ m2)) := fun m1 m2 h1 h2 l1 l2 => ⟨by simp only [List.length_append, List.length_singleton]; omega, fun a ha => by
    simp only [List.mem_append, List.mem_singleton] at ha
    rcases ha with (ha | rfl) | ha
    · exact am.2 a (h1 a ha)
    · exact ho
    · exact am.2 a (h2 a ha)⟩
  refine q_setN (i := 5) (S := [f]) (evn_lst (k := (kMd : Kd K C _)) (xs := [.tup ((l.map At.int).drop (1 : Int).toNat), .tup (l.map At.int).dropLast, .tup (l.map At.int).reverse, .lst (l.map At.int), .tup ((l.map At.int).take at_.toNat ++ [one] ++ (l.map At.int).drop at_.toNat), .tup (l.map At.int ++ (l.map At.int).take (1 : Int).toNat), .at .non])
    (evl_cons (ev_mT (ev_dropTq (vE Lf.refl rfl) ev_int (by decide))) (evl_cons (ev_mT (ev_initTq (vE Lf.refl rfl))) (evl_cons (ev_mT (ev_revTq (vE Lf.refl rfl))) (evl_cons (ev_mL (EvN.ev (evn_copyT (vE Lf.refl rfl) fr2))) (evl_cons (ev_mT (ev_catT (ev_catT (ev_takeTq (vE Lf.refl rfl) (aE rfl) p4.1) (oE Lf.refl rfl) (by simp only [List.length_take, List.length_singleton]; omega)) (ev_dropTq (vE Lf.refl rfl) (aE rfl) p4.1) (by simp only [List.length_append, List.length_take, List.length_drop, List.length_singleton]; omega))) (evl_cons (ev_mT (ev_catT (vE Lf.refl rfl) (ev_takeTq (vE Lf.refl rfl) ev_int (by decide)) (by simp only [List.length_take]; omega))) (evl_cons (ev_mA ev_aN) evl_nil))))))) fr2) fun p5 H3 n5 s3 h5 => ?_
  try dsimp only [List.set]
  have fr3 := fr2.same s3
  have hf3 : FeedAt H3 f := (Ext1.same e2.feed s3).feed
  have L3 : Lf K C [f] H2 [f] H3 := .same s3
  refine evf_pick (K := K) (C := C) (k := kMd) (i := 0) (l := [.tup ((l.map At.int).drop (1 : Int).toNat), .tup (l.map At.int).dropLast, .tup (l.map At.int).reverse, .lst (l.map At.int), .tup ((l.map At.int).take at_.toNat ++ [one] ++ (l.map At.int).drop at_.toNat), .tup (l.map At.int ++ (l.map At.int).take (1 : Int).toNat), .at .non] ++ [.tup ((l.map At.int).take at_.toNat ++ [one] ++ (l.map At.int).drop (at_ + 1).toNat), .tup [], .at (.int 0), .at (.str "0"), .at .emD]) rfl hf3
    (EvN.ev (evn_catL (ev_var (i := 5) rfl h5 Lf.refl) (EvN.ev (evn_lst (k := (kMd : Kd K C _)) (xs := [.tup ((l.map At.int).take at_.toNat ++ [one] ++ (l.map At.int).drop (at_ + 1).toNat), .tup [], .at (.int 0), .at (.str "0"), .at .emD]) (evl_cons (ev_mT (ev_catT (ev_catT (ev_takeTq (vE L3 rfl) (aE rfl) p4.1) (oE L3 rfl) (by simp only [List.length_take, List.length_singleton]; omega)) (ev_dropTq (vE L3 rfl) (ev_I2 (f := fun i j => i + j) (aE rfl) ev_int) (by omega)) (by simp only [List.length_append, List.length_take, List.length_drop, List.length_singleton]; omega))) (evl_cons (ev_mT (ev_t0 (k := kAt))) (evl_cons (ev_mA (ev_aI ev_int)) (evl_cons (ev_mA ev_aS) (evl_cons (ev_mA (ev_aD fr3)) evl_nil))))) fr3)) fr3 (by simp))) (by simp) (by simp) _ fun u H4 m e4 hu hm4 => ?_
  refine q u H4 m ((e1.trans e2).trans ((Ext1.same e2.feed s3).trans e4)) hu ?_
  simp only [List.mem_append, List.mem_cons, List.not_mem_nil, or_false] at hm4
  rcases hm4 with (rfl | rfl | rfl | rfl | rfl | rfl | rfl) | (rfl | rfl | rfl | rfl | rfl)
  · exact (am.sub (by rw [List.length_drop]; omega) fun a ha => List.mem_of_mem_drop ha).ok
  · exact (am.sub (by rw [List.length_dropLast]; omega) fun a ha => (List.dropLast_sublist _).subset ha).ok
  · exact (am.sub (by rw [List.length_reverse]; omega) fun a ha => List.mem_reverse.mp ha).ok
  · exact ⟨by rw [lm]; omega, am.2⟩
  · exact mid _ _ (fun a ha => List.mem_of_mem_take ha) (fun a ha => List.mem_of_mem_drop ha) (by rw [List.length_take]; omega) (by rw [List.length_drop]; omega)
  · refine ⟨by rw [List.length_append, List.length_take]; omega, fun a ha => ?_⟩
    rcases List.mem_append.mp ha with ha | ha
    · exact am.2 a ha
    · exact am.2 a (List.mem_of_mem_take ha)
  · exact (show At.non ∈ adom by decide +kernel)
  · exact mid _ _ (fun a ha => List.mem_of_mem_take ha) (fun a ha => List.mem_of_mem_drop ha) (by rw [List.length_take]; omega) (by rw [List.length_drop]; omega)
  · exact ⟨by simp, fun a ha => by cases ha⟩
  · exact (show At.int 0 ∈ adom by decide +kernel)
  · exact (show At.str "0" ∈ adom by decide +kernel)
  · exact (show At.emD ∈ adom by decide +kernel)
end
end Ew
namespace Ew
open PySem PySem.Spec PyProof.Rows L2
section
variable {P : Program} {w : World} {K : PySem.W.Frag} {mg : Str → Option Value} {base : Heap} {C : Addr}
abbrev sLarger : Stmt := (top 39)
def spLarger (K : PySem.W.Frag) (C : Addr) : Sp := fun vs H Q _ => ∃ (f : Addr) (wR wK wA : V) (ds : List Int) (rs : List (Int × List Int)) (kw : List (List Int)) (as : List Int), vs = [.ref f, wR, wK, wA] ∧ FeedAt H f ∧ (kL kR : Kd K C _).rp [f] H wR rs ∧ (kWs : Kd K C _).rp [f] H wK kw ∧ (kT kI : Kd K C _).rp [f] H wA as ∧ DsOk ds rs ∧ RowsOk ⟨ds, rs⟩ kw ∧
  ∀ H' p ws, Ext1 f H H' → H p = none → (kWs : Kd K C _).rp [f] H' (.ref p) ws → RowsOk ⟨ds, rs⟩ ws → Q (.ref p) H'
theorem scLarger : FnScope ["feed", "readers", "kept", "absent", "found", "at", "limit", "may", "row", "rest", "work", "turn"] ["feed", "readers", "kept", "absent"] (defScope sLarger) := ⟨rfl, rfl, rfl, by decide +kernel, rfl, by decide +kernel, by decide +kernel⟩
set_option maxHeartbeats 0 in
theorem c__law_larger (D : DefAt K mg "_law_larger" sLarger ["feed", "readers", "kept", "absent"]) (B : Bi mg) (c__law_take : C8.Cal P w K mg base 1 "_law_take" spTake []) : C8.Cal P w K mg base 2 "_law_larger" (spLarger K C) [] := by
  refine cal_of D scLarger (fun vs H Q E h => ?_) fun f0 cdv A outer s H vs Q E hr h => ?_
  · obtain ⟨f, wR, wK, wA, ds, rs, kw, as, rfl, _⟩ := h
    rfl
  obtain ⟨f, wR, wK, wA, ds, rs, kw, as, rfl, hF, h_readers, h_kept, h_absent, ok, rok, q⟩ := h
  have fr : Fr C [f] H := fr_feed hF
  have r6 := ok.r6
  have n6 := ok.n6
  refine ⟨_, (pss_cons (ps_set (i := 4) scLarger.nd rfl (.inl rfl) (pe_lst pa_nil))
 (pss_cons (ps_for PassesOwn.never rfl (pi_enum (by rfl) B.enumerate (pa_cons (pv 1) pa_nil)) (pg_tup (by rfl) (pgs_cons (pg_name (i := 5) scLarger.nd rfl (.inl rfl)) (pgs_cons (pg_tup (by rfl) (pgs_cons (pg_name (i := 6) scLarger.nd rfl (.inl rfl)) (pgs_cons (pg_name (i := 7) scLarger.nd rfl (.inl rfl)) pgs_nil))) pgs_nil))) (pss_cons (ps_set (i := 8) scLarger.nd rfl (.inr rfl) (pe_ix ix_list (pv 2) (pv 5) (fun _ _ => rfl)))
 (pss_cons (ps_setLc (i := 9) (own := [("work", 10)]) (g := (gName 10)) (tt := (tTest (tOp (rIn K true) (tVar 10) (tVar 8)))) (te := (tVar 10)) (by rfl) scLarger.nd rfl rfl (sw_true rfl rfl rfl (by decide +kernel)) (pi_tup (pv 7)) (blkOk_by (own := [("work", 10)]) (N := ["feed", "readers", "kept", "absent", "found", "at", "limit", "may", "row", "rest", "work", "turn"]) (sc := defScope sLarger) (by decide +kernel)) (fun _ _ _ _ _ => (pg_name (i := 10) scLarger.nd rfl (.inl rfl))) (fun _ _ _ _ _ => pts_one (pt_cmpR op_notIn_seq (pv 10) (pv 8) (by rfl))) (fun _ _ _ _ _ => (pv 10)))
 (pss_cons (ps_for PassesOwn.never rfl (pi_range1 rfl B.range (pa_cons (C8.pe_c c__law_take hr (by decide) (by rfl) (pa_cons (pv 0) (pa_cons (pe_op op_add pe_int (pe_callB (call_min2 rfl) (by rfl) B.min (by decide +kernel) (pa_cons (pe_op op_sub (pv 6) (pe_callB call_len_seq (by rfl) B.len PySem.boot_len (pa_cons (pv 8) pa_nil))) (pa_cons (pe_callB call_len_seq (by rfl) B.len PySem.boot_len (pa_cons (pv 9) pa_nil)) pa_nil)))) pa_nil))) pa_nil)) (pg_name (i := 11) scLarger.nd rfl (.inl rfl)) (pss_one (ps_set (i := 8) scLarger.nd rfl (.inr rfl) (pe_op op_cat1 (pv 8) (pe_tup (pa_cons (pe_bm PySem.F.plainAttrs_list PySem.F.slot_list_pop PySem.F.type_list_pop mt_popAt (pv 9) (pa_cons (C8.pe_c c__law_take hr (by decide) (by rfl) (pa_cons (pv 0) (pa_cons (pe_callB call_len_seq (by rfl) B.len PySem.boot_len (pa_cons (pv 9) pa_nil)) pa_nil))) pa_nil)) pa_nil))))))
 (pss_one (ps_expr (pe_bm PySem.F.plainAttrs_list PySem.F.slot_list_append PySem.F.type_list_append mt_append (pv 4) (pa_cons (pe_ifExp (pt_cmpR op_in_seq (pv 5) (pv 3) (by rfl)) (pe_tup pa_nil) (pe_callTy call_tuple_of (by rfl) B.tuple (by decide +kernel) (pa_cons (pe_callB cr_sortedTu (by rfl) B.sorted (by decide +kernel) (pa_cons (pv 8) pa_nil)) pa_nil))) pa_nil))))))))
 (pss_one (ps_ret (pv 4))))), ?_⟩
  try dsimp only [cxOf, Cx.nox, Cx.wish]
  refine q_setN (evn_l0 (k := (kT kI : Kd K C _)) fr) fun p H1 np s1 h1 => ?_
  obtain ⟨p', vf, hpe, hpn, hp1, hpP, _⟩ := h1
  cases hpe
  cases hpP
  have pf : p ≠ f := fun e => hpn (by simp [e])
  have f1 : Fr C [p, f] H1 := fun a m => by
    rcases List.mem_cons.mp m with rfl | m
    · exact ⟨_, hp1, trivial⟩
    · exact (fr.same s1) a m
  have e1 : Ext1 f H H1 := Ext1.same hF s1
  have lf : ∀ Hc, Ext1 f H Hc → Fr C [p, f] Hc → Lf K C [f] H [p, f] Hc := fun Hc e fc => lf_ext1 fr (by simp) np e fc
  have hrl := kL_len h_readers
  refine s_for (kx := kP kI kR) (S := [p, f]) (evi_enum (ev_var rfl h_readers (lf H1 e1 f1))) fun H4 s4 => ⟨fun i σ' H' => ∃ y_at y_limit y_may y_row y_rest y_turn y_work vs ws, σ' = [some (.ref f), some wR, some wK, some wA, some (.ref p), y_at, y_limit, y_may, y_row, y_rest, y_work, y_turn] ∧ Ext1 f H H' ∧ Fr C [p, f] H' ∧ Lf K C [p, f] H4 [p, f] H' ∧ H' p = some (.lst vs) ∧ Paired ((kT kI : Kd K C _).rp [p, f] H') vs ws ∧ ws.length = i ∧ (i ≤ rs.length) ∧ ∀ j : Int, 0 ≤ j ∧ j < ws.length → RowOk (at_ rs j) (at_ ws j),
    ⟨none, none, none, none, none, none, none, [], [], rfl, e1.trans (Ext1.same e1.feed s4), f1.same s4, Lf.refl, s4 _ _ hp1, .nil, rfl, Nat.zero_le _, fun j hj => by simp at hj; omega⟩, fun i σ' H' h => let ⟨_, _, _, _, _, _, _, _, _, _, _, _, l, _⟩ := h; l, ?_, ?_⟩
  · rintro i x σ' H' v H'' hx ⟨y_at, y_limit, y_may, y_row, y_rest, y_turn, y_work, vs, ws, rfl, ec, fc, lc, hp, hP, hwl, hil, hro⟩ sx hv
    obtain ⟨x1, x2⟩ := enum_at hx
    obtain ⟨xi, r⟩ := x
    have x1 : xi = (i : Int) := x1
    subst x1
    have x2 : rs[i]? = some r := x2
    have hi : i < rs.length := by
      rcases Nat.lt_or_ge i rs.length with h | h
      · exact h
      · rw [List.getElem?_eq_none h] at x2; cases x2
    have ear : at_ rs (i : Int) = r := by
      unfold at_
      rw [Int.toNat_natCast, List.getD_eq_getElem?_getD, x2]
      rfl
    have rdok := ok.ok r (List.mem_of_getElem? x2)
    have ec2 : Ext1 f H H'' := ec.trans (Ext1.same ec.feed sx)
    have f2 := fc.same sx
    have l2 := lf H'' ec2 f2
    have lc2 := lc.trans (Lf.same sx)
    have hp2 := sx _ _ hp
    have hP2 := L2.Paired.mapP hP fun _ _ z => (kT kI : Kd K C _).same sx z
    refine gt2n hv fun a1 a2 a3 hat hlim hmay => ?_
    have hat : (kI : Kd K C _).rp [p, f] H'' a1 (i : Int) := hat
    have hlim : (kI : Kd K C _).rp [p, f] H'' a2 r.1 := hlim
    have hmay : (kT kI : Kd K C _).rp [p, f] H'' a3 r.2 := hmay
    have hik : 0 ≤ (i : Int) ∧ (i : Int) < kw.length := ⟨by omega, by rw [rok.1]; show (i : Int) < rs.length; omega⟩
    have rk := rok.2 (i : Int) hik
    have rk : RowOk (at_ rs (i : Int)) (at_ kw (i : Int)) := rk
    rw [ear] at rk
    have mlen : r.2.length ≤ 1000000 := kT_len hmay
    refine q_set (ev_ixL (ev_var rfl h_kept l2) (ev_var rfl hat Lf.refl) hik) fun w8 H5 s5 hrow => ?_
    refine q_setN (evn_lc (f2.same s5) (evi_tup (ev_var rfl hmay (Lf.same s5))) mlen (fun y1 hy1 D1 v1 H1 l1 f1 hv1 => lcb_name rfl (evt_test (ev_nin (ev_var rfl hv1 Lf.refl) (ev_var rfl hrow l1) IsSq.t)) (fun ht1 => (ev_var rfl hv1 Lf.refl)))) fun rr H6 nr s6 hrest => ?_
    rw [List.map_id'] at hrest
    have hm6 : r.2.length ≤ 6 := by
      have h1 : (r.2.length : Int) ≤ ds.length := rdok.2.2.len (by omega)
      omega
    have hk6 : (at_ kw (i : Int)).length ≤ 6 := by
      have h1 := rk.2.2
      have h2 := rdok.2.1
      omega
    have hrest0 : (r.2.filter fun y => !decide (y ∈ at_ kw (i : Int))).length ≤ 6 := Nat.le_trans (List.length_filter_le _ _) hm6
    have hrow := (kT kI : Kd K C _).same s6 hrow
    have s56 := s5.trans s6
    have f6 := f2.same s56
    have e6 : Ext1 f H H6 := ec2.trans (Ext1.same ec2.feed s56)
    have hlim := (kI : Kd K C _).same s56 hlim
    have nr2 : H'' rr = none := s5.free nr
    have nr0 : H rr = none := ec2.free nr2
    have hp6 := s56 _ _ hp2
    have hP6 := L2.Paired.mapP hP2 fun _ _ z => (kT kI : Kd K C _).same s56 z
    obtain ⟨r', hre, hrn, hr6', _⟩ := kL_ints hrest
    cases hre
    have rrp : rr ≠ p := fun e => hrn (by simp [e])
    have rrf : rr ≠ f := fun e => hrn (by simp [e])
    generalize hr0 : (r.2.filter fun y => !decide (y ∈ at_ kw (i : Int))) = rest0 at *
    generalize hk0 : at_ kw (i : Int) = row0 at *
    have ndall : (row0 ++ rest0).Nodup := List.nodup_append.mpr ⟨nodup_asc rk.1, by rw [← hr0]; exact (nodup_asc rdok.2.2.1).filter _, fun a ha b hb e => by
      subst e
      rw [← hr0] at hb
      simpa [ha] using (List.mem_filter.mp hb).2⟩
    have suball : ∀ y ∈ row0 ++ rest0, y ∈ r.2 := fun y hy => by
      rcases List.mem_append.mp hy with hy | hy
      · exact rk.2.1 y hy
      · rw [← hr0] at hy
        exact (List.mem_filter.mp hy).1
    cases (show a2 = .int r.1 from hlim)
    have lc6 : Lf K C [p, f] H4 [rr, p, f] H6 := lc2.trans ((Lf.same s5).trans ((Lf.new nr).trans (.same s6)))
    have f66 : Fr C [rr, p, f] H6 := fun a m => by
      rcases List.mem_cons.mp m with rfl | m
      · exact ⟨_, hr6', trivial⟩
      · exact f6 a m
    refine ⟨_, rfl, ?_⟩
    refine Ev.use (S := [p, f]) (ev_I2 ev_int (ev_mm (ev_I2 (ev_var rfl hlim Lf.refl) (ev_len (ev_var rfl hrow Lf.refl) IsSq.t)) (ev_len (ev_var rfl hrest Lf.refl) IsSq.l))) fun u H7 s7 hu => ?_
    cases (show u = .int (1 + (if ((rest0.length : Nat) : Int) < r.1 - ((row0.length : Nat) : Int) then ((rest0.length : Nat) : Int) else r.1 - ((row0.length : Nat) : Int))) from hu)
    have lk := rk.2.2
    have e7 : Ext1 f H H7 := e6.trans (Ext1.same e6.feed s7)
    refine ⟨f, _, rfl, e7.feed, by split <;> omega, by have := rdok.2.1; split <;> omega, fun H8 n e8 n0 n1 => ?_⟩
    have n2 : n ≤ rest0.length ∧ n ≤ r.1 - row0.length := by split at n1 <;> omega
    have f77 := f66.same s7
    have sx8 := sx_ext f77 (by simp) e8
    have x78 : Lf K C [rr, p, f] H6 [rr, p, f] H8 := (Lf.same s7).trans (.sx f77 sx8)
    refine ⟨n, rfl, by omega, by omega, for_range (lo := 0) (n := n.toNat) (fun j σ' H' => ∃ wr yt cur rst, σ' = [some (.ref f), some wR, some wK, some wA, some (.ref p), some a1, some (.int r.1), some a3, some wr, some (.ref rr), y_work, yt] ∧ Ext1 f H H' ∧ Fr C [rr, p, f] H' ∧ Lf K C [p, f] H4 [rr, p, f] H' ∧ H' p = some (.lst vs) ∧ Paired ((kT kI : Kd K C _).rp [rr, p, f] H') vs ws ∧ (kT kI : Kd K C _).rp [rr, p, f] H' wr cur ∧ H' rr = some (.lst (rst.map V.int)) ∧ (cur ++ rst).Perm (row0 ++ rest0) ∧ cur.length = row0.length + j)
      ⟨w8, y_turn, row0, rest0, rfl, e7.trans e8, sx8.fr, lc6.trans x78, e8.1 _ _ pf (s7 _ _ hp6), L2.Paired.mapP hP6 fun _ _ z => x78.go (kT kI) _ _ (kTI_any z), x78.go (kT kI) _ _ (kTI_any hrow), e8.1 _ _ rrf (s7 _ _ hr6'), List.Perm.refl _, rfl⟩ ?_ ?_⟩
    · rintro j σ' H' hj ⟨wr, yt, cur, rst, rfl, e9, f9, l9, hp9, hP9, hw9, hr9, pm, hcl⟩
      have hsum : cur.length + rst.length = row0.length + rest0.length := by
        have := pm.length_eq
        rw [List.length_append, List.length_append] at this
        exact this
      obtain ⟨t0, rfl, hT0, _⟩ := kT_ints hw9
      refine ⟨_, rfl, _, rfl, .inl ⟨rfl, _, .inl (.inl hr9)⟩, _, rfl, _, rfl, rr, _, rfl, .inl (.inl (.inl hr9)), f, _, rfl, e9.feed, by rw [List.length_map]; omega, by rw [List.length_map]; omega, fun Ha k ea k0 k1 => ?_⟩
      rw [List.length_map] at k1
      obtain ⟨k, rfl⟩ : ∃ k' : Nat, k = (k' : Int) := ⟨k.toNat, by omega⟩
      have hk : k < rst.length := by omega
      have hra := ea.1 _ _ rrf hr9
      have sxa := sx_ext f9 (by simp) ea
      have fa := sxa.fr
      have sxb : Sx C [rr, p, f] Ha (upd Ha rr (.lst ((rst.map V.int).eraseIdx k))) := sx_upd fa (by simp) trivial
      have lab : Lf K C [rr, p, f] H' [rr, p, f] (upd Ha rr (.lst ((rst.map V.int).eraseIdx k))) := (Lf.sx f9 sxa).trans (.sx fa sxb)
      refine ⟨rr, _, (k : Int), k, .int rst[k], rfl, rfl, hra, by omega, by omega, ?_, by simp [hk], ?_⟩
      · rw [List.length_map]
        unfold seqIndex?
        simp
        omega
      have hTb := sqT_sx fa sxb (sqT_sx f9 sxa hT0)
      have ebb : Ext1 f H (upd Ha rr (.lst ((rst.map V.int).eraseIdx k))) := (e9.trans ea).own nr0 rrf
      have hpb : (upd Ha rr (.lst ((rst.map V.int).eraseIdx k))) p = some (.lst vs) := by rw [upd_ne (Ne.symm rrp)]; exact ea.1 _ _ pf hp9
      have hrb : (upd Ha rr (.lst ((rst.map V.int).eraseIdx k))) rr = some (.lst ((rst.eraseIdx k).map V.int)) := by rw [upd_same, map_eraseIdx']
      have fb := sxb.fr
      generalize (upd Ha rr (.lst ((rst.map V.int).eraseIdx k))) = Hb at *
      refine ⟨szL (by simp), fun t1 nt1 => ?_⟩
      have st := sameU (o := .tup [V.int rst[k]]) nt1
      refine ⟨t0, t1, _, _, rfl, rfl, sameT st hTb, .inl (.inl upd_same), szL (by rw [List.length_map]; simp; omega), fun t2 Hd sd hd => ?_⟩
      have sbd := st.trans sd
      refine ⟨_, _, cur ++ [rst[k]], rst.eraseIdx k, rfl, ebb.trans (Ext1.same ebb.feed sbd), fb.same sbd, l9.trans (lab.trans (.same sbd)), sbd _ _ hpb, L2.Paired.mapP hP9 fun _ _ z => (lab.trans (.same sbd)).go (kT kI) _ _ z, ⟨t2, _, rfl, hd, ?_, by rw [List.length_append, List.length_singleton]; omega⟩, sbd _ _ hrb, ?_, by rw [List.length_append, List.length_singleton]; omega⟩
      · rw [← List.map_singleton (f := V.int), ← List.map_append]
        exact paired_ints _
      · rw [List.append_assoc]
        exact (List.Perm.append_left cur (perm_get hk).symm).trans pm
    · rintro σ' H' ⟨wr, yt, cur, rst, rfl, e9, f9, l9, hp9, hP9, hw9, hr9, pm, hcl⟩
      have f8 : Fr C [p, f] H' := f9.tail
      have hab := (lf H' e9 f8).go (kT kI) _ _ h_absent
      have hat8 : (kI : Kd K C _).rp [p, f] H' a1 (i : Int) := hat
      have hrw8 : (kT kI : Kd K C _).rp [p, f] H' wr cur := kTI_any hw9
      have hcl6 : cur.length ≤ 6 := by have := rdok.2.1; omega
      have ndc : cur.Nodup := (List.nodup_append.mp (pm.nodup_iff.mpr ndall)).1
      have rok8 : RowOk r (srt cur) := ⟨srt_lt ndc, fun y hy => suball y (pm.mem_iff.mp (List.mem_append_left _ (srt_mem.mp hy))), by rw [srt_len, hcl]; omega⟩
      have fin : ∀ (w' : V) (row' : List Int) (Hx : Hp), Same H' Hx → (kT kI : Kd K C _).rp [p, f] Hx w' row' → RowOk r row' → ∀ (yt2 : Option V), (∃ y_at' y_limit' y_may' y_row' y_rest' y_turn' y_work' vs' ws', ([some (.ref f), some wR, some wK, some wA, some (.ref p), some a1, some (.int r.1), some a3, some wr, some (.ref rr), y_work, yt2] : L2.St) = [some (.ref f), some wR, some wK, some wA, some (.ref p), y_at', y_limit', y_may', y_row', y_rest', y_work', y_turn'] ∧ Ext1 f H (upd Hx p (.lst (vs ++ [w']))) ∧ Fr C [p, f] (upd Hx p (.lst (vs ++ [w']))) ∧ Lf K C [p, f] H4 [p, f] (upd Hx p (.lst (vs ++ [w']))) ∧ (upd Hx p (.lst (vs ++ [w']))) p = some (.lst vs') ∧ Paired ((kT kI : Kd K C _).rp [p, f] (upd Hx p (.lst (vs ++ [w'])))) vs' ws' ∧ ws'.length = i + 1 ∧ i + 1 ≤ rs.length ∧ ∀ j : Int, 0 ≤ j ∧ j < ws'.length → RowOk (at_ rs j) (at_ ws' j)) := by
        intro w' row' Hx sxx hw' hro' yt2
        have fx := f9.same sxx
        have sxp : Sx C [rr, p, f] Hx (upd Hx p (.lst (vs ++ [w']))) := sx_upd fx (by simp) trivial
        refine ⟨_, _, _, _, _, _, _, vs ++ [w'], ws ++ [row'], rfl, (e9.trans (Ext1.same e9.feed sxx)).own np pf (.lst (sxx _ _ hp9)), sxp.fr.tail, l9.trans ((Lf.same sxx).trans ((Lf.sx fx sxp).trans (.less fun a m => List.mem_cons_of_mem _ m))), upd_same, ?_, by rw [List.length_append, List.length_singleton, hwl], by omega, fun j hj => ?_⟩
        · refine Paired.app (L2.Paired.mapP hP9 fun _ _ z => kTI_any ((kT kI : Kd K C _).sx fx sxp ((kT kI : Kd K C _).same sxx z))) (.cons ?_ .nil)
          exact kTI_any ((kT kI : Kd K C _).sx fx sxp (kTI_any hw'))
        · rw [List.length_append, List.length_singleton] at hj
          by_cases e : j < ws.length
          · have e2 : at_ (ws ++ [row']) j = at_ ws j := by
              unfold at_
              rw [List.getD_eq_getElem?_getD, List.getD_eq_getElem?_getD, List.getElem?_append_left (by omega)]
            rw [e2]
            exact hro j ⟨hj.1, e⟩
          · have ej : j = (i : Int) := by omega
            subst ej
            have e2 : at_ (ws ++ [row']) (i : Int) = row' := by
              unfold at_
              rw [Int.toNat_natCast, List.getD_eq_getElem?_getD, List.getElem?_append_right (by omega), hwl, Nat.sub_self]
              rfl
            rw [e2, ear]
            exact hro'
      have hvl := pLen hP9
      refine ⟨_, rfl, .inl ⟨rfl, _, .inl (.inl hp9)⟩, ?_⟩
      refine Ev.use (k := (kT kI : Kd K C _)) (S := [p, f]) (ev_if (evt_test (ev_in (ev_var rfl hat8 Lf.refl) (ev_var rfl hab Lf.refl) IsSq.t)) (fun hc => ev_t0 (k := (kI : Kd K C _))) (fun hc => (ev_tup (EvN.ev (evn_sortT (ev_var rfl hrw8 Lf.refl) f8 (by omega))) IsSq.l))) fun w' Hx sxx hw' => ?_
      refine ⟨p, vs, w', rfl, rfl, sxx _ _ hp9, szl (by omega), ?_⟩
      refine fin w' _ Hx sxx hw' ?_ yt
      by_cases hm : (i : Int) ∈ as
      · rw [if_pos (decide_eq_true hm)]
        exact ⟨.nil, (fun y hy => (nomatch hy)), rdok.1⟩
      · rw [if_neg (by rw [decide_eq_false hm]; exact Bool.false_ne_true)]
        exact rok8
  · rintro σ' H' ⟨y_at, y_limit, y_may, y_row, y_rest, y_turn, y_work, vs, ws, rfl, ec, fc, lc, hp, hP, hwl, hil, hro⟩
    rw [enum_len] at hwl
    refine ⟨_, rfl, ?_⟩
    refine q H' p ws ec np ⟨p, vs, rfl, fun m => pf (List.mem_singleton.mp m), hp, L2.Paired.mapP hP fun _ _ z => kTI_any z, by omega⟩ ⟨hwl, hro⟩
end
end Ew
namespace Ew
open PySem PySem.Spec PyProof.Rows L2
section
variable {K : PySem.W.Frag} {C : Addr} {α β : Type} {k : Kd K C α} {k1 : Kd K C β} {S : List Addr} {H : Hp} {σ : L2.St} {te ta tb : TE} {tt : TT} {t : TA} {x : α} {f : Addr} {Φ Ψ : α → Prop} {D : Ends} {g : TG} {u : TS} {b : Bool}
theorem EvF.mono (h : EvF f k H te σ Φ) (i : ∀ x, Φ x → Ψ x) : EvF f k H te σ Ψ := fun Q q => h Q fun v H2 x e r p => q v H2 x e r (i x p)
def EvFs (f : Addr) (k : Kd K C α) (H : Hp) (t : TA) (σ : L2.St) (Φ : List α → Prop) : Prop := ∀ Q : List V → Hp → Prop, (∀ vs H2 xs, Ext1 f H H2 → Paired (k.rp [f] H2) vs xs → Φ xs → Q vs H2) → t σ H Q
theorem evfs_nil (hf : FeedAt H f) : EvFs f k H tNil σ fun xs => xs = [] := fun Q q => q [] H [] (Ext1.refl hf) .nil rfl
theorem evfs_cons {Φs : List α → Prop} (h : EvF f k H ta σ Φ) (g : ∀ H1, Ext1 f H H1 → EvFs f k H1 t σ Φs) : EvFs f k H (tCons ta t) σ fun xs => ∃ x r, xs = x :: r ∧ Φ x ∧ Φs r := fun Q q => h _ fun v H2 x e2 r p => by
  refine g H2 e2 _ fun vs H3 xs e3 rs ps => ?_
  exact q _ H3 _ (e2.trans e3) (.cons ((lf_ext (fr_feed e2.feed) (by simp) e3).go _ _ _ r) rs) ⟨x, xs, rfl, p, ps⟩
theorem evf_lst {Φs : List α → Prop} (h : EvFs f k H t σ Φs) (hl : ∀ xs, Φs xs → xs.length ≤ 1000) : EvF f (kL k) H (tLst t) σ Φs := fun Q q => h _ fun vs H2 xs e2 rs ps => by
  have := hl xs ps
  refine ⟨Nat.le_of_lt (szl (by rw [pLen rs]; omega)), fun p hn => ?_⟩
  have fp : p ≠ f := e2.feed.ne hn
  exact q _ _ xs (e2.new hn) ⟨p, vs, rfl, by simp [fp], upd_same, L2.Paired.mapP rs fun _ _ z => k.same (sameU hn) z, by omega⟩ ps
end
end Ew
namespace Ew
open PySem PySem.Spec PyProof.Rows L2
section
variable {K : PySem.W.Frag} {C : Addr} {α : Type} {k : Kd K C α} {S : List Addr} {H : Hp} {σ : L2.St} {ta tb te : TE} {f : Addr} {i : Nat} {Φ : List α → Prop}
theorem evf_pickF2 (e : σ[i]? = some (some (.ref f))) (h : EvF f (kL k) H tb σ Φ) (hne : ∀ l, Φ l → l ≠ [] ∧ l.length < 1000) : EvF f k H (tCall (spPick K) [] C8.E0 (tCons (tVar i) (tCons tb tNil))) σ fun x => ∃ l, Φ l ∧ x ∈ l := fun Q q => ⟨_, e, h _ fun v H2 l e2 r φ => by
  obtain ⟨a, vs, rfl, na, hA, p, _⟩ := r
  have hp := pLen p
  obtain ⟨h1, h2⟩ := hne l φ
  refine ⟨f, a, vs, rfl, e2.feed, .inl (.inl hA), fun z => na (by simp [z]), by rw [hp]; exact List.length_pos_iff.mpr h1, by omega, fun H3 v e3 hv => ?_⟩
  obtain ⟨x, m, rx⟩ := paired_mem p hv
  exact q v H3 x (e2.trans e3) ((lf_ext (fr_feed e2.feed) (by simp) e3).go k v x rx) ⟨l, φ, m⟩⟩
end
section
variable {P : Program} {w : World} {K : PySem.W.Frag} {mg : Str → Option Value} {base : Heap} {C : Addr}
abbrev sState : Stmt := (top 46)
def spState (K : PySem.W.Frag) (C : Addr) : Sp := fun vs H Q _ => ∃ f R ds rs, vs = [.ref f, .ref R] ∧ FeedAt H f ∧ (kL (kR (K := K) (C := C))).rp [f] H (.ref R) rs ∧ DsOk ds rs ∧
  ∀ v H' as kw ws, Ext1 f H H' → (k3 (kT (kI (K := K) (C := C))) kWs kWs).rp [f] H' v (as, kw, ws) → as.length ≤ 6 → RowsOk ⟨ds, rs⟩ kw → RowsOk ⟨ds, rs⟩ ws → Q v H'
theorem scState : FnScope ["feed", "readers", "absent", "kept", "reader"] ["feed", "readers"] (defScope sState) := ⟨rfl, rfl, rfl, by decide +kernel, rfl, by decide +kernel, by decide +kernel⟩
set_option maxHeartbeats 0 in
theorem c__law_state (D : DefAt K mg "_law_state" sState ["feed", "readers"]) (B : Bi mg) (c__law_gone : C8.Cal P w K mg base 2 "_law_gone" (spGone K) []) (c__law_pick : C8.Cal P w K mg base 2 "_law_pick" (spPick K) []) (c__law_rows : C8.Cal P w K mg base 3 "_law_rows" (spRows K) []) (c__law_larger : C8.Cal P w K mg base 2 "_law_larger" (spLarger K C) []) : C8.Cal P w K mg base 4 "_law_state" (spState K C) [] := by
  refine cal_of D scState (fun vs H Q E h => by obtain ⟨f, R, ds, rs, rfl, _⟩ := h; rfl) fun f0 cdv A outer s H vs Q E hr h => ?_
  obtain ⟨f, R, ds, rs, rfl, hf, hR, ok, q⟩ := h
  have r6 := ok.r6
  have fr : Fr C [f] H := fr_feed hf
  refine ⟨_, (pss_cons (ps_set (i := 2) scState.nd rfl (.inl rfl) (C8.pe_c c__law_gone hr (by decide) (by rfl) (pa_cons (pv 0) (pa_cons (pv 1) pa_nil))))
 (pss_cons (ps_set (i := 3) scState.nd rfl (.inl rfl) (C8.pe_c c__law_pick hr (by decide) (by rfl) (pa_cons (pv 0) (pa_cons (pe_lst (pa_cons (C8.pe_c c__law_rows hr (by decide) (by rfl) (pa_cons (pv 0) (pa_cons (pv 1) (pa_cons (pv 2) pa_nil)))) (pa_cons (C8.pe_c c__law_rows hr (by decide) (by rfl) (pa_cons (pv 0) (pa_cons (pv 1) (pa_cons (pe_tup pa_nil) pa_nil)))) pa_nil))) pa_nil))))
 (pss_cons (ps_set (i := 3) scState.nd rfl (.inl rfl) (C8.pe_c c__law_pick hr (by decide) (by rfl) (pa_cons (pv 0) (pa_cons (pe_lst (pa_cons (pv 3) (pa_cons (pv 3) (pa_cons (pe_lc (own := [("reader", 4)]) (g := (gName 4)) (tt := tYes) (te := (tTup tNil)) rfl scState.nd (pi_list (pv 1)) (blkOk_by (own := [("reader", 4)]) (N := ["feed", "readers", "absent", "kept", "reader"]) (sc := defScope sState) (by decide +kernel)) (fun _ _ _ _ _ => (pg_name (i := 4) scState.nd rfl (.inl rfl))) (fun _ _ _ _ _ => pts_nil) (fun _ _ _ _ _ => (pe_tup pa_nil))) pa_nil)))) pa_nil))))
 (pss_one (ps_ret (pe_tup (pa_cons (pv 2) (pa_cons (pv 3) (pa_cons (C8.pe_c c__law_larger hr (by decide) (by rfl) (pa_cons (pv 0) (pa_cons (pv 1) (pa_cons (pv 3) (pa_cons (pv 2) pa_nil))))) pa_nil))))))))), ?_⟩
  try dsimp only [cxOf, Cx.nox, Cx.wish]
  refine q_setF (f := f) (evf_gone (K := K) (C := C) (i := 0) (j := 1) rfl hf rfl hR r6) fun ab H1 as e1 hab asc => ?_
  try dsimp only [List.set]
  have hR1 := (lf_ext fr (by simp) e1).go _ _ _ hR
  have al : as.length ≤ 6 := by have := asc.len; omega
  refine q_setF (f := f) (i := 3) (evf_pickF2 (K := K) (C := C) (k := kWs) (f := f) (i := 0) rfl (evf_lst (evfs_cons (evf_rows (i := 0) (j := 1) rfl e1.feed rfl hR1 ok (evf_of e1.feed (ev_var (i := 2) rfl hab Lf.refl))) fun H2 e2 => evfs_cons (evf_rows (i := 0) (j := 1) rfl e2.feed rfl ((lf_ext (fr_feed e1.feed) (by simp) e2).go _ _ _ hR1) ok (evf_of e2.feed (ev_t0 (k := (kI : Kd K C _))))) fun H3 e3 => evfs_nil e3.feed) fun xs hx => by
    obtain ⟨x, r, rfl, _, y, r2, rfl, _, rfl⟩ := hx
    simp) fun l hl => by
    obtain ⟨x, r, rfl, _, y, r2, rfl, _, rfl⟩ := hl
    simp) fun v3 H3 kw1 e3 h3 hk => ?_
  try dsimp only [List.set]
  have rok1 : RowsOk ⟨ds, rs⟩ kw1 := by
    obtain ⟨l, ⟨x, r, rfl, ⟨hx, _⟩, y, r2, rfl, ⟨hy, _⟩, rfl⟩, hm⟩ := hk
    rcases List.mem_cons.mp hm with rfl | hm
    · exact hx
    · rw [List.mem_singleton.mp hm]; exact hy
  have l13 := lf_ext (K := K) (fr_feed (C := C) e1.feed) (by simp) e3
  have hR3 := l13.go _ _ _ hR1
  have hab3 := l13.go _ _ _ hab
  have fr3 : Fr C [f] H3 := fr_feed e3.feed
  refine q_setF (f := f) (i := 3) (evf_pick (K := K) (C := C) (k := kWs) (f := f) (i := 0) (l := [kw1, kw1, rs.map fun _ => []]) rfl e3.feed (EvN.ev (evn_lst (k := (kWs : Kd K C _)) (xs := [kw1, kw1, rs.map fun _ => []]) (evl_cons (ev_var (i := 3) rfl h3 Lf.refl) (evl_cons (ev_var (i := 3) rfl h3 Lf.refl) (evl_cons (Ev.to (EvN.ev (evn_lc (p := fun _ => true) (f := fun _ => ([] : List Int)) fr3 (evi_list (ev_var (i := 1) (k := kL kR) rfl hR3 Lf.refl)) (by omega) (fun y1 hy1 D1 v1 H1 l1 f1 hv1 => lcb_name rfl evt_yes (fun ht1 => (ev_t0 (k := (kI : Kd K C _))))))) (by rw [List.filter_eq_self.mpr (fun _ _ => rfl)])) evl_nil))) fr3)) (by simp) (by simp)) fun v4 H4 kw e4 h4 hk4 => ?_
  try dsimp only [List.set]
  have rokk : RowsOk ⟨ds, rs⟩ kw := by
    simp only [List.mem_cons, List.not_mem_nil, or_false] at hk4
    rcases hk4 with rfl | rfl | rfl
    · exact rok1
    · exact rok1
    · exact rowsOk_nil ok
  have l34 := lf_ext (K := K) fr3 (by simp) e4
  have hR4 := l34.go _ _ _ hR3
  have hab4 := l34.go _ _ _ hab3
  refine ⟨_, rfl, _, rfl, _, rfl, _, rfl, _, rfl, _, rfl, f, _, _, _, ds, rs, kw, as, rfl, e4.feed, hR4, h4, hab4, ok, rokk, fun H5 Wr ws e5 n5 hr5 rokr => ⟨szL (by simp), fun t nt => ?_⟩⟩
  have l45 := lf_ext (K := K) (fr_feed (C := C) e4.feed) (by simp) e5
  have st := sameU (o := .tup [ab, v4, .ref Wr]) nt
  exact q _ _ as kw ws ((e1.trans e3).trans (e4.trans (e5.trans (Ext1.same e5.feed st)))) ⟨t, _, _, _, rfl, .inl (.inl upd_same), (kT kI).same st (l45.go _ _ _ hab4), kWs.same st (l45.go _ _ _ h4), kWs.same st hr5⟩ al rokk rokr
end
end Ew
namespace Ew
open PySem PySem.Spec PyProof.Rows L2
section
variable {K : PySem.W.Frag} {C : Addr} {α : Type} {k : Kd K C α} {S : List Addr} {H : Hp} {σ : L2.St} {ta tb te : TE} {f : Addr} {i : Nat} {Φ : Int → Prop} {c : Int}
theorem evf_eqC (h : EvF (K := K) (C := C) f kI H ta σ Φ) : EvF (K := K) (C := C) f kB H (tOp rEq ta (tC (.int c))) σ fun _ => True := fun Q q => h _ fun v H2 n e r _ => by
  cases (show v = .int n from r)
  exact ⟨rfl, q _ H2 (decide (V.int n = V.int c)) e rfl trivial⟩
theorem evf_addC {n : Int} (h : EvF (K := K) (C := C) f kI H tb σ Φ) : EvF (K := K) (C := C) f kI H (tOp (rI0 fun i j => .int (i + j)) (tC (.int n)) tb) σ fun x => ∃ m, Φ m ∧ x = n + m := fun Q q => h _ fun v H2 m e r p => by
  cases (show v = .int m from r)
  exact ⟨n, m, rfl, rfl, q _ H2 (n + m) e rfl ⟨m, p, rfl⟩⟩
theorem ev_lastLx [Inhabited α] {l : List α} (ha : Ev (kL k) S H ta σ l) (hc : 0 < l.length) : Ev k S H (tOp (rIxL K) ta (tUn (rU fun i => .int (-i)) (tC (.int 1)))) σ (at_ l ((l.length : Int) - 1)) :=
  ev_op2 ha (ev_neg ev_int) fun v w H1 _ e1 e2 Q q => by
    obtain ⟨a, vs, rfl, _, h, p, _⟩ := e1
    have hl := pLen p
    obtain ⟨u, hu, r⟩ := atI_at (i := (l.length : Int) - 1) p (by omega)
    refine ⟨a, vs, -1, u, rfl, e2, .inl (.inl h), ?_, q _ H1 (Same.refl _) r⟩
    have e : atI vs (-1) = atI vs ((l.length : Int) - 1) := by
      unfold atI ixN
      rw [if_neg (by omega), if_pos (by omega), if_pos (by omega), if_pos (by omega)]
      congr 1
      show some _ = some _
      congr 1
      omega
    rw [e]
    exact hu
theorem q_ifOrAndF {D : Ends} {tu tv : TT} {t1 u : TS} {b d : Bool} (hf : FeedAt H f) (h1 : EvT H tu σ b) (h2 : b = false → ∀ H1, Same H H1 → EvT H1 tv σ d) (h3 : ∀ H1, Same H H1 → EvF (K := K) (C := C) f kI H1 ta σ Φ) (p : ∀ H1, Ext1 f H H1 → t1 { D with nx := u D } σ H1) (q : b = false → ∀ H1, Ext1 f H H1 → u D σ H1) : tSeq (tIfS (tOr tu (tAnd tv (tTest (tOp rEq ta (tC (.int c)))))) t1 tNext) u D σ H := h1.use fun H1 s1 => by
  have e1 := Ext1.same hf s1
  cases b with
  | true => exact iteT (p H1 e1)
  | false =>
    refine iteF ((h2 rfl H1 s1).use fun H2 s2 => ?_)
    have e2 := Ext1.same hf (s1.trans s2)
    cases d with
    | false => exact iteF (q rfl H2 e2)
    | true =>
      refine iteT (h3 H2 (s1.trans s2) _ fun v H3 n e r _ => ?_)
      cases (show v = .int n from r)
      refine ⟨rfl, _, rfl, ?_⟩
      show if decide (V.int n = V.int c) = true then t1 { D with nx := u D } σ H3 else u D σ H3
      split
      · exact p H3 (e2.trans e)
      · exact q rfl H3 (e2.trans e)
end
def LkOk (l : Link) : Prop := (0 ≤ l.1 ∧ l.1 ≤ 6) ∧ (0 ≤ l.2.1 ∧ l.2.1 ≤ 6) ∧ ∀ g, l.2.2 = some g → 0 ≤ g ∧ g ≤ 6
theorem at_lastx {α : Type} [Inhabited α] {l : List α} {x : α} : at_ (l ++ [x]) (((l ++ [x]).length : Int) - 1) = x := by
  have e : (((l ++ [x]).length : Int) - 1) = ((l.length : Nat) : Int) := by rw [List.length_append, List.length_singleton]; omega
  rw [e]
  exact at_eq (by rw [List.getElem?_append_right (Nat.le_refl _), Nat.sub_self]; rfl)
section
variable {P : Program} {w : World} {K : PySem.W.Frag} {mg : Str → Option Value} {base : Heap} {C : Addr}
abbrev sLWalk : Stmt := (top 43)
def spLWalk (K : PySem.W.Frag) (C : Addr) : Sp := fun vs H Q _ => ∃ f wR wK wW wA z ds rs kw ws as, vs = [.ref f, wR, wK, wW, wA, .int z] ∧ FeedAt H f ∧ (kL (kR (K := K) (C := C))).rp [f] H wR rs ∧ (kWs (K := K) (C := C)).rp [f] H wK kw ∧ (kWs (K := K) (C := C)).rp [f] H wW ws ∧ (kT (kI (K := K) (C := C))).rp [f] H wA as ∧ DsOk ds rs ∧ RowsOk ⟨ds, rs⟩ kw ∧ RowsOk ⟨ds, rs⟩ ws ∧ (0 ≤ z ∧ z ≤ 6) ∧
  ∀ H' p ls, Ext1 f H H' → (kLinks (K := K) (C := C)).rp [f] H' (.ref p) ls → ls.length ≤ 7 → (∀ l ∈ ls, LkOk l) → Q (.ref p) H'
theorem scLWalk : FnScope ["feed", "readers", "kept", "rows", "absent", "work", "found", "seen", "again", "turn", "takers_v", "at", "gives", "one"] ["feed", "readers", "kept", "rows", "absent", "work"] (defScope sLWalk) := ⟨rfl, rfl, rfl, by decide +kernel, rfl, by decide +kernel, by decide +kernel⟩
set_option maxHeartbeats 0 in
theorem c__law_walked (D : DefAt K mg "_law_walked" sLWalk ["feed", "readers", "kept", "rows", "absent", "work"]) (B : Bi mg) (c__law_take : C8.Cal P w K mg base 1 "_law_take" spTake []) (c__law_pick : C8.Cal P w K mg base 2 "_law_pick" (spPick K) []) (c__law_present : C8.Cal P w K mg base 1 "_law_present" (sp__law_present K C) []) : C8.Cal P w K mg base 3 "_law_walked" (spLWalk K C) [] := by
  refine cal_of D scLWalk (fun vs H Q E h => by obtain ⟨f, wR, wK, wW, wA, z, ds, rs, kw, ws, as, rfl, _⟩ := h; rfl) fun f0 cdv A outer s H vs Q E hr h => ?_
  obtain ⟨f, wR, wK, wW, wA, z, ds, rs, kw, ws, as, rfl, hf, h_readers, h_kept, h_rows, h_absent, ok, rokk, rokr, hz, q⟩ := h
  have r6 := ok.r6
  have n6 := ok.n6
  have lrs : kw.length = rs.length := rokk.1
  have lws : ws.length = rs.length := rokr.1
  have pl : (presL rs as).length ≤ 6 := Nat.le_trans (List.length_filter_le _ _) (by rw [iota_len]; omega)
  have rgW : ∀ {a : Int}, 0 ≤ a ∧ a < (rs.length : Nat) → (at_ ws a).length ≤ 6 ∧ ∀ x ∈ at_ ws a, 0 ≤ x ∧ x < 6 := fun {a} ha => ⟨by
    have rk := rokr.2 a ⟨ha.1, by rw [rokr.1]; exact ha.2⟩
    have := rk.2.2
    have := (ok.ok _ (at_mem (l := rs) (i := a) ha)).2.1
    have e : at_ (Bk.rs ⟨ds, rs⟩) a = at_ rs a := rfl
    rw [e] at *
    omega, rokr.row_rg ok ha⟩
  refine ⟨_, (pss_cons (ps_asg (pe_tup (pa_cons (pe_lst pa_nil) (pa_cons (pe_lst pa_nil) (pa_cons (pe_cmpR op_eq (C8.pe_c c__law_take hr (by decide) (by rfl) (pa_cons (pv 0) (pa_cons pe_int pa_nil))) pe_int (nomark _)) pa_nil)))) (pg_tup (by rfl) (pgs_cons (pg_name (i := 6) scLWalk.nd rfl (.inl rfl)) (pgs_cons (pg_name (i := 7) scLWalk.nd rfl (.inr rfl)) (pgs_cons (pg_name (i := 8) scLWalk.nd rfl (.inr rfl)) pgs_nil)))))
 (pss_cons (ps_for PassesOwn.never rfl (pi_range1 rfl B.range (pa_cons (pe_op op_add pe_int (C8.pe_c c__law_take hr (by decide) (by rfl) (pa_cons (pv 0) (pa_cons pe_int pa_nil)))) pa_nil)) (pg_name (i := 9) scLWalk.nd rfl (.inl rfl)) (pss_cons (ps_setLc (i := 10) (own := [("at", 11)]) (g := (gName 11)) (tt := (tOr (tB (tVar 8)) (tTest (tOp (rIn K true) (tVar 11) (tVar 7))))) (te := (tVar 11)) (by rfl) scLWalk.nd rfl rfl (sw_true rfl rfl rfl (by decide +kernel)) (pi_list (C8.pe_c c__law_present hr (by decide) (by rfl) (pa_cons (pv 1) (pa_cons (pv 4) pa_nil)))) (blkOk_by (own := [("at", 11)]) (N := ["feed", "readers", "kept", "rows", "absent", "work", "found", "seen", "again", "turn", "takers_v", "at", "gives", "one"]) (sc := defScope sLWalk) (by decide +kernel)) (fun _ _ _ _ _ => (pg_name (i := 11) scLWalk.nd rfl (.inl rfl))) (fun _ _ _ _ _ => pts_one (PW.pt (pw_or (pt_val (pv 8)) (pw_or1 (pt_cmpR op_notIn_seq (pv 11) (pv 7) (by rfl)))))) (fun _ _ _ _ _ => (pv 11)))
 (pss_cons (ps_setLc (i := 10) (own := [("at", 11)]) (g := (gName 11)) (tt := (tAnd (tTest (tOp (rIn K false) (tVar 5) (tOp (rIxT K) (tOp (rIxL K) (tVar 1) (tVar 11)) (tC (.int 1))))) (tTest (tOp (rIn K true) (tVar 5) (tOp (rIxL K) (tVar 3) (tVar 11)))))) (te := (tVar 11)) (by rfl) scLWalk.nd rfl rfl (sw_true rfl rfl rfl (by decide +kernel)) (pi_list (pv 10)) (blkOk_by (own := [("at", 11)]) (N := ["feed", "readers", "kept", "rows", "absent", "work", "found", "seen", "again", "turn", "takers_v", "at", "gives", "one"]) (sc := defScope sLWalk) (by decide +kernel)) (fun _ _ _ _ _ => (pg_name (i := 11) scLWalk.nd rfl (.inl rfl))) (fun _ _ _ _ _ => pts_one (PW.pt (pw_and (pt_cmpR op_in_seq (pv 5) (pe_ix ix_tup (pe_ix ix_list (pv 1) (pv 11) (fun _ _ => rfl)) pe_int (fun _ _ => rfl)) (by rfl)) (pw_and1 (pt_cmpR op_notIn_seq (pv 5) (pe_ix ix_list (pv 3) (pv 11) (fun _ _ => rfl)) (by rfl)))))) (fun _ _ _ _ _ => (pv 11)))
 (pss_cons (ps_if (pt_cmpR (op_eqNil (Nat.lt_of_le_of_lt (Nat.le_add_right _ 64) hr.units)) (pv 10) (pe_lst pa_nil) (nomark _)) (pss_one (ps_ret (pv 6))) pss_nil)
 (pss_cons (ps_set (i := 11) scLWalk.nd rfl (.inr rfl) (C8.pe_c c__law_pick hr (by decide) (by rfl) (pa_cons (pv 0) (pa_cons (pv 10) pa_nil))))
 (pss_cons (ps_setLc (i := 12) (own := [("one", 13)]) (g := (gName 13)) (tt := (tTest (tOp (rIn K true) (tVar 13) (tOp (rIxL K) (tVar 2) (tVar 11))))) (te := (tVar 13)) (by rfl) scLWalk.nd rfl rfl (sw_true rfl rfl rfl (by decide +kernel)) (pi_tup (pe_ix ix_list (pv 3) (pv 11) (fun _ _ => rfl))) (blkOk_by (own := [("one", 13)]) (N := ["feed", "readers", "kept", "rows", "absent", "work", "found", "seen", "again", "turn", "takers_v", "at", "gives", "one"]) (sc := defScope sLWalk) (by decide +kernel)) (fun _ _ _ _ _ => (pg_name (i := 13) scLWalk.nd rfl (.inl rfl))) (fun _ _ _ _ _ => pts_one (pt_cmpR op_notIn_seq (pv 13) (pe_ix ix_list (pv 2) (pv 11) (fun _ _ => rfl)) (by rfl))) (fun _ _ _ _ _ => (pv 13)))
 (pss_cons (ps_expr (pe_bm PySem.F.plainAttrs_list PySem.F.slot_list_append PySem.F.type_list_append mt_append (pv 7) (pa_cons (pv 11) pa_nil)))
 (pss_cons (ps_if (PW.pt (pw_or (pt_cmpR (op_eqNil (Nat.lt_of_le_of_lt (Nat.le_add_right _ 64) hr.units)) (pv 12) (pe_lst pa_nil) (nomark _)) (pw_or1 (PW.pt (pw_and (pt_cmpR op_lt (pe_callB call_len_seq (by rfl) B.len PySem.boot_len (pa_cons (pe_ix ix_list (pv 3) (pv 11) (fun _ _ => rfl)) pa_nil)) (pe_ix ix_tup (pe_ix ix_list (pv 1) (pv 11) (fun _ _ => rfl)) pe_int (fun _ _ => rfl)) (nomark _)) (pw_and1 (pt_cmpR op_eq (C8.pe_c c__law_take hr (by decide) (by rfl) (pa_cons (pv 0) (pa_cons pe_int pa_nil))) pe_int (nomark _)))))))) (pss_one (ps_ret (pe_op op_cat (pv 6) (pe_lst (pa_cons (pe_tup (pa_cons (pv 11) (pa_cons (pv 5) (pa_cons pe_non pa_nil)))) pa_nil))))) pss_nil)
 (pss_cons (ps_expr (pe_bm PySem.F.plainAttrs_list PySem.F.slot_list_append PySem.F.type_list_append mt_append (pv 6) (pa_cons (pe_tup (pa_cons (pv 11) (pa_cons (pv 5) (pa_cons (C8.pe_c c__law_pick hr (by decide) (by rfl) (pa_cons (pv 0) (pa_cons (pv 12) pa_nil))) pa_nil)))) pa_nil)))
 (pss_one (ps_set (i := 5) scLWalk.nd rfl (.inr rfl) (pe_ix ix_tup (pe_ix ix_list (pv 6) (pe_un un_neg pe_int) (fun _ _ => rfl)) pe_int (fun _ _ => rfl)))))))))))))
 (pss_one (ps_ret (pv 6))))), ?_⟩
  try dsimp only [cxOf, Cx.nox, Cx.wish]
  refine ⟨szL (by simp), fun p n1 => ⟨szL (by simp), fun p2 n2 => ?_⟩⟩
  have fr : Fr C [f] H := fr_feed hf
  have e1 : Ext1 f H (upd H p (.lst [])) := (Ext1.refl hf).new n1
  have e2 : Ext1 f H (upd (upd H p (.lst [])) p2 (.lst [])) := e1.new n2
  have p2p : p2 ≠ p := fun e => by rw [e, upd_same] at n2; cases n2
  have pf : p ≠ f := hf.ne n1
  have p2f : p2 ≠ f := e1.feed.ne n2
  have n2H : H p2 = none := by rw [upd_ne p2p] at n2; exact n2
  have fr1 : Fr C [p, f] (upd H p (.lst [])) := fr.cons n1 trivial
  have fr2 : Fr C [p2, p, f] (upd (upd H p (.lst [])) p2 (.lst [])) := fr1.cons n2 trivial
  refine evf_eqC (evf_take (K := K) (C := C) (i := 0) rfl e2.feed ev_int (by decide) (by decide)) _ fun v3 H3 ag e3 r3 _ => ?_
  cases (show v3 = .bl ag from r3)
  refine ⟨szL (by simp), fun t0 n0 => ?_⟩
  refine ⟨t0, _, rfl, .inl (.inl upd_same), rfl, _, _, rfl, _, _, rfl, _, _, rfl, rfl, ?_⟩
  try dsimp only [List.set]
  have s34 := sameU (o := .tup [.ref p, .ref p2, .bl ag]) n0
  have e4 : Ext1 f H (upd H3 t0 (.tup [.ref p, .ref p2, .bl ag])) := (e2.trans e3).trans (Ext1.same e3.feed s34)
  have hp4 : (upd H3 t0 (.tup [.ref p, .ref p2, .bl ag])) p = some (.lst []) := s34 _ _ (e3.1 _ _ pf (by rw [upd_ne p2p.symm, upd_same]))
  have hp24 : (upd H3 t0 (.tup [.ref p, .ref p2, .bl ag])) p2 = some (.lst []) := s34 _ _ (e3.1 _ _ p2f upd_same)
  have lx4 : Lf K C [f] H [p2, p, f] (upd H3 t0 (.tup [.ref p, .ref p2, .bl ag])) := (Lf.own n1).trans ((Lf.own n2).trans ((lf_ext fr2 (by simp) e3).trans (.same s34)))
  have fr4 : Fr C [p2, p, f] (upd H3 t0 (.tup [.ref p, .ref p2, .bl ag])) := (sx_ext fr2 (f := f) (by simp) e3).fr.same s34
  generalize (upd H3 t0 (.tup [.ref p, .ref p2, .bl ag])) = H4 at *
  refine evf_addC (evf_take (K := K) (C := C) (i := 0) rfl e4.feed ev_int (by decide) (by decide)) _ fun v5 H5 m e5 r5 hm => ?_
  obtain ⟨m', hm', rfl⟩ := hm
  cases (show v5 = .int (1 + m') from r5)
  have fin : ∀ Hx vs ls, Ext1 f H Hx → Hx p = some (.lst vs) → Paired ((kLink (K := K) (C := C)).rp [f] Hx) vs ls → ls.length ≤ 7 → (∀ l ∈ ls, LkOk l) → Q (.ref p) Hx := fun Hx vs ls e hp hP hl hk => q Hx p ls e ⟨p, vs, rfl, by simp [pf], hp, hP, by omega⟩ hl hk
  refine ⟨1 + m', rfl, by omega, by omega, for_range (lo := 0) (n := (1 + m').toNat) (fun j σ' H' => ∃ z' y9 y10 y11 y12 vs ls es, σ' = [some (.ref f), some wR, some wK, some wW, some wA, some (.int z'), some (.ref p), some (.ref p2), some (.bl ag), y9, y10, y11, y12, none] ∧ Ext1 f H H' ∧ Fr C [p2, p, f] H' ∧ Lf K C [f] H [p2, p, f] H' ∧ H' p = some (.lst vs) ∧ Paired ((kLink (K := K) (C := C)).rp [f] H') vs ls ∧ H' p2 = some (.lst (es.map V.int)) ∧ ls.length ≤ j ∧ es.length ≤ j ∧ (∀ l ∈ ls, LkOk l) ∧ (0 ≤ z' ∧ z' ≤ 6))
    ⟨z, none, none, none, none, [], [], [], rfl, e4.trans e5, (sx_ext fr4 (f := f) (by simp) e5).fr, lx4.trans (lf_ext fr4 (by simp) e5), e5.1 _ _ pf hp4, .nil, e5.1 _ _ p2f hp24, Nat.le_refl _, Nat.le_refl _, fun l h => (nomatch h), hz⟩ ?_ ?_⟩
  · rintro j σ' H' hj ⟨z', y9, y10, y11, y12, vs, ls, es, rfl, ex, fx, lx, hp, hP, hp2, hl1, hl2, hok, hz'⟩
    have hj7 : j < 7 := by omega
    have zE : ∀ {Hc : Hp} {σ : L2.St} {S : List Addr}, σ[5]? = some (some (.int z')) → Ev (K := K) (C := C) kI S Hc (tVar 5) σ z' := fun e => ev_var e (show (kI (K := K) (C := C)).rp _ _ (.int z') z' from rfl) Lf.refl
    have le3 : ∀ a, a ∈ [p, f] → a ∈ [p2, p, f] := fun a m => List.mem_cons_of_mem _ m
    have le1 : ∀ a, a ∈ [f] → a ∈ [p2, p, f] := fun a m => by simp at m; simp [m]
    have fx1 : Fr C [p, f] H' := fx.tail
    have hR := (kL (kR (K := K) (C := C))).less le3 (lx.go _ _ _ h_readers)
    have hA := (kT (kI (K := K) (C := C))).less le3 (lx.go _ _ _ h_absent)
    have hW := (kWs (K := K) (C := C)).less le3 (lx.go kWs _ _ h_rows)
    have hes : (kL (kI (K := K) (C := C))).rp [p, f] H' (.ref p2) es := ⟨p2, _, rfl, by simp [p2p, p2f], hp2, paired_ints es, by omega⟩
    try dsimp only [List.set]
    refine q_setN (i := 10) (S := [p, f]) (k := kL (kI (K := K) (C := C))) (evn_lc fx1 (evi_list (EvN.ev (evn_call (ks := (aC (kL kR) (aC (kT kI) aN) : Ka K C _)) (kr := kL kI) (a := (rs, as, ())) (eva_cons (ev_var (i := 1) rfl hR Lf.refl) (eva_cons (ev_var (i := 4) rfl hA Lf.refl) eva_nil)) fx1 trivial))) (show (presL rs as).length ≤ 1000000 by omega) (fun y1 hy1 D1 v1 H1 l1 f1 hv1 => lcb_name rfl (evt_or (evt_b (ev_var (i := 8) (k := (kB : Kd K C _)) (S' := [p, f]) (H0 := H1) (x := ag) rfl rfl Lf.refl)) fun _ => evt_test (ev_nin (ev_var rfl hv1 Lf.refl) (ev_var (i := 7) rfl hes l1) IsSq.l)) fun _ => ev_var rfl hv1 Lf.refl)) fun p10 H6 n10 s6 h10 => ?_
    rw [List.map_id'] at h10
    have m1 : ∀ y ∈ (presL rs as).filter (fun y => ag || !decide (y ∈ es)), 0 ≤ y ∧ y < (rs.length : Nat) := fun y hy => (presL_mem.mp (List.mem_filter.mp hy).1).1
    have k1 : ((presL rs as).filter (fun y => ag || !decide (y ∈ es))).length ≤ 6 := Nat.le_trans (List.length_filter_le _ _) pl
    generalize (presL rs as).filter (fun y => ag || !decide (y ∈ es)) = t1 at *
    try dsimp only [List.set]
    have hR6 := (kL (kR (K := K) (C := C))).same s6 hR
    have hW6 := (kWs (K := K) (C := C)).same s6 hW
    refine q_setN (i := 10) (S := [p, f]) (k := kL (kI (K := K) (C := C))) (evn_lc (fx1.same s6) (evi_list (ev_var (i := 10) rfl h10 Lf.refl)) (show t1.length ≤ 1000000 by omega) (fun y1 hy1 D1 v1 H1 l1 f1 hv1 => lcb_name rfl (evt_and (evt_test (ev_in (zE rfl) (ev_snd (k := kI) (k1 := kT kI) (ev_ixL (k := kR) (ev_var (i := 1) rfl hR6 l1) (ev_var rfl hv1 Lf.refl) (m1 y1 hy1))) IsSq.t)) fun _ => evt_test (ev_nin (zE rfl) (ev_ixL (k := kT kI) (ev_var (i := 3) rfl hW6 l1) (ev_var rfl hv1 Lf.refl) (by have := m1 y1 hy1; omega)) IsSq.t)) fun _ => ev_var rfl hv1 Lf.refl)) fun p11 H7 n11 s7 h11 => ?_
    rw [List.map_id'] at h11
    obtain ⟨t2, et2⟩ : ∃ t2, t2 = List.filter (fun y => decide (z' ∈ (at_ rs y).2) && !decide (z' ∈ at_ ws y)) t1 := ⟨_, rfl⟩
    rw [← et2] at h11
    have m2 : ∀ y ∈ t2, 0 ≤ y ∧ y < (rs.length : Nat) := fun y hy => by rw [et2] at hy; exact m1 y (List.mem_filter.mp hy).1
    have k2 : t2.length ≤ 6 := by rw [et2]; exact Nat.le_trans (List.length_filter_le _ _) k1
    clear et2 h10
    try dsimp only [List.set]
    have s07 := s6.trans s7
    refine q_if (evt_test (ev_eqNil (k := kI) (ev_var (i := 10) rfl h11 Lf.refl) (fx1.same s07))) (fun H8 hb s8 => ?_) fun H8 hb s8 => ?_
    · have s08 := s07.trans s8
      exact ⟨_, rfl, fin H8 vs ls (ex.trans (Ext1.same ex.feed s08)) (s08 _ _ hp) (L2.Paired.mapP hP fun _ _ z => kLink.same s08 z) (by omega) hok⟩
    have hne : t2 ≠ [] := fun e => by rw [e] at hb; cases hb
    have s08 := s07.trans s8
    have ex8 := ex.trans (Ext1.same ex.feed s08)
    have h11' : (kL (kI (K := K) (C := C))).rp [f] H8 (.ref p11) t2 := (kL kI).less (fun a m => by simp at m; simp [m]) ((kL kI).same s8 h11)
    refine q_setF (f := f) (i := 11) (evf_pick (K := K) (C := C) (k := kI) (i := 0) rfl ex8.feed (ev_var (i := 10) rfl h11' Lf.refl) hne (by omega)) fun v11 H9 a e9 r11 ha => ?_
    cases (show v11 = .int a from r11)
    try dsimp only [List.set]
    have ia := m2 a ha
    have fx8 := fx.same s08
    have fx9 : Fr C [p2, p, f] H9 := (sx_ext fx8 (f := f) (by simp) e9).fr
    have ex9 := ex8.trans e9
    have lx9 : Lf K C [f] H [p2, p, f] H9 := lx.trans ((Lf.same s08).trans (lf_ext fx8 (by simp) e9))
    have hp9 := e9.1 _ _ pf (s08 _ _ hp)
    have hp29 := e9.1 _ _ p2f (s08 _ _ hp2)
    have hP9 : Paired ((kLink (K := K) (C := C)).rp [f] H9) vs ls := L2.Paired.mapP hP fun _ _ z => (lf_ext (fr_feed (C := C) ex8.feed) (by simp) e9).go kLink _ _ (kLink.same s08 z)
    have hW9 := lx9.go (kWs : Kd K C _) _ _ h_rows
    have hK9 := lx9.go (kWs : Kd K C _) _ _ h_kept
    have aE : ∀ {Hc : Hp} {σ : L2.St} {S : List Addr}, σ[11]? = some (some (.int a)) → Ev (K := K) (C := C) kI S Hc (tVar 11) σ a := fun e => ev_var e (show (kI (K := K) (C := C)).rp _ _ (.int a) a from rfl) Lf.refl
    refine q_setN (i := 12) (S := [p2, p, f]) (k := kL (kI (K := K) (C := C))) (evn_lc fx9 (evi_tup (ev_ixL (k := kT kI) (ev_var (i := 3) rfl hW9 Lf.refl) (aE rfl) (by omega))) (by have := (rgW ia).1; omega) (fun y1 hy1 D1 v1 H1 l1 f1 hv1 => lcb_name rfl (evt_test (ev_nin (ev_var rfl hv1 Lf.refl) (ev_ixL (k := kT kI) (ev_var (i := 2) rfl hK9 l1) (aE rfl) (by omega)) IsSq.t)) fun _ => ev_var rfl hv1 Lf.refl)) fun p12 H10 n12 s10 h12 => ?_
    rw [List.map_id'] at h12
    have m3 : ∀ y ∈ (at_ ws a).filter (fun y => !decide (y ∈ at_ kw a)), 0 ≤ y ∧ y < 6 := fun y hy => (rgW ia).2 y (List.mem_filter.mp hy).1
    have k3' : ((at_ ws a).filter (fun y => !decide (y ∈ at_ kw a))).length ≤ 6 := Nat.le_trans (List.length_filter_le _ _) (rgW ia).1
    generalize (at_ ws a).filter (fun y => !decide (y ∈ at_ kw a)) = t3 at *
    try dsimp only [List.set]
    have ex10 := ex9.trans (Ext1.same ex9.feed s10)
    have fx10 := fx9.same s10
    have hp10 := s10 _ _ hp9
    have hp210 := s10 _ _ hp29
    refine ⟨_, rfl, .inl ⟨rfl, _, .inl (.inl hp210)⟩, ?_⟩
    refine ⟨_, rfl, ?_⟩
    have sx11 : Sx C [p2, p, f] H10 (upd H10 p2 (.lst (es.map V.int ++ [.int a]))) := sx_upd fx10 (by simp) trivial
    refine ⟨p2, _, .int a, rfl, rfl, hp210, szl (by rw [List.length_map]; omega), ?_⟩
    have ex11 : Ext1 f H (upd H10 p2 (.lst (es.map V.int ++ [.int a]))) := ex10.own n2H p2f (.lst hp210)
    have fx11 := sx11.fr
    have lx11 : Lf K C [f] H [p2, p, f] (upd H10 p2 (.lst (es.map V.int ++ [.int a]))) := lx9.trans ((Lf.same s10).trans (.sx fx10 sx11))
    have h12' := (kL (kI (K := K) (C := C))).sx fx10 sx11 h12
    have hp11 : (upd H10 p2 (.lst (es.map V.int ++ [.int a]))) p = some (.lst vs) := by rw [upd_ne p2p.symm]; exact hp10
    have hp211 : (upd H10 p2 (.lst (es.map V.int ++ [.int a]))) p2 = some (.lst ((es ++ [a]).map V.int)) := by rw [upd_same, List.map_append]; rfl
    have hP11 : Paired ((kLink (K := K) (C := C)).rp [f] (upd H10 p2 (.lst (es.map V.int ++ [.int a])))) vs ls := L2.Paired.mapP hP9 fun _ _ z => kLink_any (kLink.sx fx10 sx11 (kLink_any (kLink.same s10 z)))
    generalize (upd H10 p2 (.lst (es.map V.int ++ [.int a]))) = H11 at *
    have hW11 := lx11.go (kWs : Kd K C _) _ _ h_rows
    have hR11 := lx11.go (kL (kR (K := K) (C := C))) _ _ h_readers
    refine q_ifOrAndF (K := K) (C := C) (f := f) ex11.feed (evt_test (ev_eqNil (k := kI) (ev_var (i := 12) rfl h12' Lf.refl) fx11)) (fun _ H12 s12 => evt_test (ev_B2 (f := fun i j => decide (i < j)) (ev_len (ev_ixL (k := kT kI) (ev_var (i := 3) rfl hW11 (Lf.same s12)) (aE rfl) (by omega)) IsSq.t) (ev_fst (k := kI) (k1 := kT kI) (ev_ixL (k := kR) (ev_var (i := 1) rfl hR11 (Lf.same s12)) (aE rfl) ia)))) (fun H12 s12 => evf_take (K := K) (C := C) (i := 0) rfl (Ext1.same ex11.feed s12).feed ev_int (by decide) (by decide)) (fun H12 e12 => ?_) fun hb H12 e12 => ?_
    · have ex12 := ex11.trans e12
      have fr12 : Fr C [f] H12 := fr_feed ex12.feed
      have hf12 : (kLinks (K := K) (C := C)).rp [f] H12 (.ref p) ls := ⟨p, vs, rfl, by simp [pf], e12.1 _ _ pf hp11, L2.Paired.mapP hP11 fun _ _ z => (lf_ext (fr_feed (C := C) ex11.feed) (by simp) e12).go kLink _ _ z, by omega⟩
      refine s_retN (k := kLinks (K := K) (C := C)) (S := [f]) (x := ls ++ [(a, z', none)]) (evn_catL (k := kLink) (ev_var (i := 6) rfl hf12 Lf.refl) (EvN.ev (evn_lst (k := kLink) (xs := [(a, z', none)]) (evl_cons (ev_t3 (aE rfl) (zE rfl) ev_none) evl_nil) fr12)) fr12 (by simp; omega)) fun p' H13 n13 s13 h13 => ?_
      refine q H13 p' _ (ex12.trans (Ext1.same ex12.feed s13)) h13 (by rw [List.length_append, List.length_singleton]; omega) fun l hl => ?_
      rcases List.mem_append.mp hl with hl | hl
      · exact hok l hl
      · rw [List.mem_singleton.mp hl]
        exact ⟨⟨ia.1, by show a ≤ 6; omega⟩, hz', fun g hg => by cases hg⟩
    have hne3 : t3 ≠ [] := fun e => by rw [e] at hb; cases hb
    have ex12 := ex11.trans e12
    have fx12 : Fr C [p2, p, f] H12 := (sx_ext fx11 (f := f) (by simp) e12).fr
    have hp12 := e12.1 _ _ pf hp11
    have hp212 := e12.1 _ _ p2f hp211
    have lx12 := lx11.trans (lf_ext fx11 (f := f) (by simp) e12)
    have hP12 : Paired ((kLink (K := K) (C := C)).rp [f] H12) vs ls := L2.Paired.mapP hP11 fun _ _ z => (lf_ext (fr_feed (C := C) ex11.feed) (by simp) e12).go kLink _ _ z
    have h12f : (kL (kI (K := K) (C := C))).rp [f] H12 (.ref p12) t3 := (kL kI).less le1 ((lf_ext fx11 (f := f) (by simp) e12).go _ _ _ h12')
    refine ⟨_, rfl, .inl ⟨rfl, _, .inl (.inl hp12)⟩, ?_⟩
    refine ⟨_, rfl, _, rfl, ?_⟩
    refine evf_pick (K := K) (C := C) (k := kI) (i := 0) rfl ex12.feed (ev_var (i := 12) rfl h12f Lf.refl) hne3 (by omega) _ fun vg H13 g e13 rg hg => ⟨szL (by simp), fun t1 nt1 => ?_⟩
    cases (show vg = .int g from rg)
    have ig := m3 g hg
    have ex13 := ex12.trans e13
    have st := sameU (o := .tup [.int a, .int z', .int g]) nt1
    have hp14 := st _ _ (e13.1 _ _ pf hp12)
    have hp214 := st _ _ (e13.1 _ _ p2f hp212)
    have fx13 : Fr C [p2, p, f] H13 := (sx_ext fx12 (f := f) (by simp) e13).fr
    have fx14 := fx13.same st
    have lx14 := (lx12.trans (lf_ext fx12 (f := f) (by simp) e13)).trans (Lf.same st)
    have ex14 := ex13.trans (Ext1.same ex13.feed st)
    have hT14 : (kLink (K := K) (C := C)).rp [f] (upd H13 t1 (.tup [.int a, .int z', .int g])) (.ref t1) (a, z', some g) := ⟨t1, _, _, _, rfl, .inl (.inl upd_same), rfl, rfl, rfl⟩
    have hP14 : Paired ((kLink (K := K) (C := C)).rp [f] (upd H13 t1 (.tup [.int a, .int z', .int g]))) vs ls := L2.Paired.mapP hP12 fun _ _ z => kLink.same st ((lf_ext (fr_feed (C := C) ex12.feed) (by simp) e13).go kLink _ _ z)
    generalize (upd H13 t1 (.tup [.int a, .int z', .int g])) = H14 at *
    refine ⟨p, _, .ref t1, rfl, rfl, hp14, szl (by rw [pLen hP14]; omega), ?_⟩
    have sx15 : Sx C [p2, p, f] H14 (upd H14 p (.lst (vs ++ [.ref t1]))) := sx_upd fx14 (by simp) trivial
    have ex15 : Ext1 f H (upd H14 p (.lst (vs ++ [.ref t1]))) := ex14.own n1 pf (.lst hp14)
    have hP15 : Paired ((kLink (K := K) (C := C)).rp [f] (upd H14 p (.lst (vs ++ [.ref t1])))) (vs ++ [.ref t1]) (ls ++ [(a, z', some g)]) := Paired.app (L2.Paired.mapP hP14 fun _ _ z => kLink_any (kLink.sx fx14 sx15 (kLink_any z))) (.cons (kLink_any (kLink.sx fx14 sx15 (kLink_any hT14))) .nil)
    have hp15 : (upd H14 p (.lst (vs ++ [.ref t1]))) p = some (.lst (vs ++ [.ref t1])) := upd_same
    have hp215 : (upd H14 p (.lst (vs ++ [.ref t1]))) p2 = some (.lst ((es ++ [a]).map V.int)) := by rw [upd_ne p2p]; exact hp214
    have lx15 := lx14.trans (Lf.sx fx14 sx15)
    have fx15 := sx15.fr
    generalize (upd H14 p (.lst (vs ++ [.ref t1]))) = H15 at *
    have hf15 : (kLinks (K := K) (C := C)).rp [f] H15 (.ref p) (ls ++ [(a, z', some g)]) := ⟨p, _, rfl, by simp [pf], hp15, hP15, by simp; omega⟩
    refine s_set (k := kO kI) (S := [f]) (ev_33 (k := kI) (k1 := kI) (k2 := kO kI) (ev_lastLx (k := kLink) (ev_var (i := 6) rfl hf15 Lf.refl) (by simp))) fun u5 H16 s16 r16 => ?_
    rw [at_lastx] at r16
    cases (show u5 = .int g from r16)
    refine ⟨g, _, _, _, _, _, ls ++ [(a, z', some g)], es ++ [a], rfl, ex15.trans (Ext1.same ex15.feed s16), fx15.same s16, lx15.trans (.same s16), s16 _ _ hp15, L2.Paired.mapP hP15 fun _ _ z => kLink.same s16 z, s16 _ _ hp215, by rw [List.length_append, List.length_singleton]; omega, by rw [List.length_append, List.length_singleton]; omega, fun l hl => ?_, ⟨ig.1, by omega⟩⟩
    rcases List.mem_append.mp hl with hl | hl
    · exact hok l hl
    · rw [List.mem_singleton.mp hl]
      exact ⟨⟨ia.1, by show a ≤ 6; omega⟩, hz', fun g' hg' => by cases hg'; exact ⟨ig.1, by omega⟩⟩
  · rintro σ' H' ⟨z', y9, y10, y11, y12, vs, ls, es, rfl, ex, fx, lx, hp, hP, hp2, hl1, hl2, hok, hz'⟩
    exact ⟨_, rfl, fin H' vs ls ex hp hP (by omega) hok⟩
end
end Ew
namespace Ew
open PySem PySem.Spec PyProof.Rows L2
abbrev Swap := Int × Int × Int × Int
abbrev LowD := List (Int × Swap)
def keysA (c : LowD) : List Int := c.map (·.1)
def getA (c : LowD) (t : Int) : Swap := ((c.find? fun p => decide (p.1 = t)).map (·.2)).getD (0, 0, 0, 0)
def putA : LowD → Int → Swap → LowD
  | [], g, e => [(g, e)]
  | p :: c, g, e => if p.1 = g then (g, e) :: c else p :: putA c g e
theorem getA_put {c : LowD} {g t : Int} {e : Swap} : getA (putA c g e) t = if t = g then e else getA c t := by
  induction c with
  | nil =>
    unfold getA putA
    rw [List.find?_cons]
    by_cases h : t = g
    · rw [if_pos h, show decide (g = t) = true by simp [h]] <;> rfl
    · rw [if_neg h, show decide (g = t) = false by simp; exact fun z => h z.symm] <;> rfl
  | cons p c ih =>
    unfold putA
    by_cases hp : p.1 = g
    · rw [if_pos hp]
      unfold getA
      rw [List.find?_cons, List.find?_cons]
      by_cases h : t = g
      · rw [if_pos h, show decide (g = t) = true by simp [h]] <;> rfl
      · rw [if_neg h, show decide (g = t) = false by simp; exact fun z => h z.symm, show decide (p.1 = t) = false by simp [hp]; exact fun z => h z.symm]
    · rw [if_neg hp]
      unfold getA at ih ⊢
      rw [List.find?_cons, List.find?_cons]
      by_cases h : p.1 = t
      · rw [show decide (p.1 = t) = true by simp [h], if_neg (fun z => hp (h.trans z))] <;> rfl
      · rw [show decide (p.1 = t) = false by simp [h]]
        exact ih
theorem keysA_put {c : LowD} {g t : Int} {e : Swap} : t ∈ keysA (putA c g e) ↔ t = g ∨ t ∈ keysA c := by
  induction c with
  | nil => simp [keysA, putA]
  | cons p c ih =>
    unfold putA
    by_cases hp : p.1 = g
    · rw [if_pos hp]
      simp [keysA, hp]
    · rw [if_neg hp]
      unfold keysA at ih ⊢
      rw [List.map_cons, List.map_cons, List.mem_cons, List.mem_cons, ih]
      constructor
      · rintro (h | h | h)
        · exact .inr (.inl h)
        · exact .inl h
        · exact .inr (.inr h)
      · rintro (h | h | h)
        · exact .inr (.inl h)
        · exact .inl h
        · exact .inr (.inr h)
def backA (low : LowD) (v : Int) : Int := (getA low v).2.1
/-- a swap lowers a price -/
def Viol (p : List Int) (e : Swap) : Prop := at_ p e.2.1 + e.2.2.2 < at_ p e.2.2.1
/-- how it stands in round i, j swaps looked at -/
structure BF (n : Int) (E : List Swap) (i j : Nat) (p : List Int) (low : LowD) (rd tm : Int → Nat) (τ : Nat) : Prop where
  len : (p.length : Int) = n
  done : ∀ e ∈ E.take j, Viol p e → i ≤ rd e.2.1
  todo : ∀ e ∈ E, Viol p e → i ≤ rd e.2.1 + 1
  key : ∀ v, 1 ≤ rd v → v ∈ keysA low ∧ getA low v ∈ E ∧ (getA low v).2.2.1 = v ∧ rd v ≤ rd (backA low v) + 1
  pr : ∀ v, 1 ≤ rd v → at_ p (backA low v) + (getA low v).2.2.2 ≤ at_ p v ∧ (tm v < tm (backA low v) → at_ p (backA low v) + (getA low v).2.2.2 < at_ p v) ∧ (backA low v = v → (getA low v).2.2.2 < 0)
  tle : ∀ v, tm v ≤ τ
  tinj : ∀ u v, 1 ≤ rd u → 1 ≤ rd v → tm u = tm v → u = v
  t0 : ∀ v, rd v = 0 → tm v = 0
  rle : ∀ v, rd v ≤ i
theorem BF.start {n : Int} {E : List Swap} (hn : 0 ≤ n) : BF n E 1 0 (List.replicate n.toNat 0) [] (fun _ => 0) (fun _ => 0) 0 :=
  ⟨by rw [List.length_replicate]; omega, fun e h => by simp at h, fun _ _ _ => by omega, fun v h => by omega, fun v h => by omega, fun _ => Nat.le_refl _, fun u v h => by omega, fun _ _ => rfl, fun _ => Nat.zero_le _⟩
end Ew
namespace Ew
open PySem PySem.Spec PyProof.Rows L2
section
variable {b : Bk} {ws f : List (List Int)} {as : List Int}
theorem RowsOk.may (ok : RowsOk b f) {r : Int} (h : 0 ≤ r ∧ r < (f.length : Int)) : ∀ z ∈ at_ f r, z ∈ (at_ b.rs r).2 := (ok.2 r h).2.1
end
end Ew
namespace Ew
open PySem PySem.Spec PyProof.Rows L2
theorem keysA_putE {c : LowD} {g : Int} {e : Swap} : keysA (putA c g e) = if g ∈ keysA c then keysA c else keysA c ++ [g] := by
  induction c with
  | nil => rfl
  | cons p c ih =>
    unfold putA
    by_cases hp : p.1 = g
    · rw [if_pos hp, if_pos (by simp [keysA, hp])]
      unfold keysA
      rw [List.map_cons, List.map_cons, hp]
    · rw [if_neg hp]
      unfold keysA at ih ⊢
      rw [List.map_cons, List.map_cons, ih]
      by_cases hm : g ∈ c.map (·.1)
      · rw [if_pos hm, if_pos (List.mem_cons_of_mem _ hm)]
      · rw [if_neg hm, if_neg (fun h => by
          rcases List.mem_cons.mp h with h | h
          · exact hp h.symm
          · exact hm h)]
        rfl
section
variable {K : PySem.W.Frag} {C : Addr} {α β γ δ : Type} {k : Kd K C α} {k1 : Kd K C β} {k2 : Kd K C γ} {k3' : Kd K C δ} {S : List Addr} {H H' : Hp} {σ : L2.St} {ta tb tc td : TE} {d : Addr} {low : LowD}
abbrev kSw : Kd K C Swap := k4 kI kI kI kI
def DicS (K : PySem.W.Frag) (C : Addr) (S : List Addr) (H : Hp) (d : Addr) (low : LowD) : Prop := ∃ kvs : List (Key × V), H d = some (.dK kvs) ∧ kvs.map (·.1) = (keysA low).map Sum.inl ∧ ∀ t ∈ keysA low, ∃ v, valV kvs (.inl t) = some v ∧ (kSw (K := K) (C := C)).rp S H v (getA low t)
theorem DicS.same (h : DicS K C S H d low) (s : Same H H') : DicS K C S H' d low := let ⟨kvs, e, h1, h2⟩ := h; ⟨kvs, s _ _ e, h1, fun t ht => let ⟨v, a, r⟩ := h2 t ht; ⟨v, a, kSw.same s r⟩⟩
theorem DicS.sx (h : DicS K C S H d low) (f : Fr C S H) (s : Sx C S H H') (e : H' d = H d) : DicS K C S H' d low := let ⟨kvs, e1, h1, h2⟩ := h; ⟨kvs, by rw [e, e1], h1, fun t ht => let ⟨v, a, r⟩ := h2 t ht; ⟨v, a, kSw.sx f s r⟩⟩
theorem DicS.new {p : Addr} (h : DicS K C S H d low) (n : H p = none) : DicS K C (p :: S) H d low := let ⟨kvs, e, h1, h2⟩ := h; ⟨kvs, e, h1, fun t ht => let ⟨v, a, r⟩ := h2 t ht; ⟨v, a, kSw.new n r⟩⟩
theorem DicS.less {T : List Addr} (h : DicS K C S H d low) (m : ∀ a ∈ T, a ∈ S) : DicS K C T H d low := let ⟨kvs, e, h1, h2⟩ := h; ⟨kvs, e, h1, fun t ht => let ⟨v, a, r⟩ := h2 t ht; ⟨v, a, kSw.less m r⟩⟩
theorem DicS.get (h : DicS K C S H d low) {t : Int} (ht : t ∈ keysA low) : ∃ v, DGet H d (.int t) (some v) ∧ (kSw (K := K) (C := C)).rp S H v (getA low t) := by
  obtain ⟨kvs, e, h1, h2⟩ := h
  obtain ⟨v, a, r⟩ := h2 t ht
  refine ⟨v, ?_, r⟩
  rw [← a]
  exact DGet.k (k := .inl t) e
theorem DicS.put (h : DicS K C S H d low) (f : Fr C S H) (hd : d ∈ S) {g : Int} {v : V} {e : Swap} (hv : (kSw (K := K) (C := C)).rp S H v e) (hl : low.length < 1000) : ∃ o, DPut H d (.int g) v (upd H d (.dK o)) ∧ DicS K C S (upd H d (.dK o)) d (putA low g e) := by
  obtain ⟨kvs, e1, h1, h2⟩ := h
  have hlen : kvs.length = low.length := by
    have := congrArg List.length h1
    rw [List.length_map, List.length_map] at this
    rw [this]
    exact List.length_map _
  have sx : Sx C S H (upd H d (.dK (putK kvs (.inl g) v))) := sx_upd f hd trivial
  refine ⟨putK kvs (.inl g) v, DPut.k (k := .inl g) e1 (szl (by omega)), _, upd_same, ?_, fun t ht => ?_⟩
  · rw [keysA_putE]
    have hany : (kvs.any fun kv => decide (kv.1 = Sum.inl g)) = decide (g ∈ keysA low) := by
      have : (kvs.any fun kv => decide (kv.1 = Sum.inl g)) = (kvs.map (·.1)).any fun x => decide (x = Sum.inl g) := by rw [List.any_map]; rfl
      rw [this, h1, List.any_map, Bool.eq_iff_iff, List.any_eq_true, decide_eq_true_eq]
      constructor
      · rintro ⟨x, hx, hh⟩
        have : (Sum.inl x : Key) = Sum.inl g := of_decide_eq_true hh
        cases this
        exact hx
      · exact fun hg => ⟨g, hg, decide_eq_true rfl⟩
    unfold putK
    rw [hany]
    by_cases hg : g ∈ keysA low
    · rw [if_pos (decide_eq_true hg), if_pos hg, List.map_map, ← h1]
      refine List.map_congr_left fun kv _ => ?_
      show (if kv.1 = Sum.inl g then (kv.1, v) else kv).1 = kv.1
      split <;> rfl
    · rw [if_neg (by simp [hg]), if_neg hg, List.map_append, List.map_append, h1]
      rfl
  · rw [valV_put, getA_put]
    by_cases htg : t = g
    · subst htg
      rw [if_pos rfl, if_pos rfl]
      exact ⟨v, rfl, kSw.sx f sx hv⟩
    · rw [if_neg (fun z => htg (by cases z; rfl)), if_neg htg]
      obtain ⟨v', a, r⟩ := h2 t ((keysA_put.mp ht).resolve_left htg)
      exact ⟨v', a, kSw.sx f sx r⟩
end
end Ew
namespace Ew
open PySem PySem.Spec PyProof.Rows L2
section
variable {P : Program} {w : World} {K : PySem.W.Frag} {mg : Str → Option Value} {base : Heap} {C : Addr}
/-- the dict's keys stay few -/
structure LowOk (n : Int) (low : LowD) : Prop where
  nd : (keysA low).Nodup
  rg : ∀ k ∈ keysA low, 0 ≤ k ∧ k < n
theorem LowOk.put {n : Int} {low : LowD} {g : Int} {e : Swap} (h : LowOk n low) (hg : 0 ≤ g ∧ g < n) : LowOk n (putA low g e) := by
  constructor
  · rw [keysA_putE]
    split
    · exact h.nd
    · rename_i hn
      exact List.nodup_append.mpr ⟨h.nd, by simp, fun a ha b hb hab => hn (by rw [← List.mem_singleton.mp hb, ← hab]; exact ha)⟩
  · intro k hk
    rcases keysA_put.mp hk with rfl | hk
    · exact hg
    · exact h.rg k hk
theorem LowOk.len {n : Int} {low : LowD} (h : LowOk n low) (hn : n ≤ 100) : low.length < 1000 := by
  have h1 := nd_len (n := n.toNat) h.nd fun g hg => by have := h.rg g hg; omega
  unfold keysA at h1
  rw [List.length_map] at h1
  omega
end
end Ew
namespace Ew
open PySem PySem.Spec PyProof.Rows L2
def hR (f : List (List Int)) (l : List Int) (r : Int) : Int := ((l.filter fun z => decide (z ∈ at_ f r)).length : Nat)
end Ew
namespace Ew
open PySem PySem.Spec PyProof.Rows L2
section
variable {K : PySem.W.Frag} {C : Addr} {α : Type} {k : Kd K C α} {S : List Addr} {H : Hp} {σ : L2.St} {ta tb te : TE}
/-- l[e:] -/
theorem evn_dropE {l : List α} {e : Int} (h : Ev (kL k) S H ta σ l) (g : Ev (K := K) (C := C) kI S H tb σ e) (he : 0 ≤ e) (fr : Fr C S H) : EvN (kL k) S H (tSl (rSlL K) ta (tPart tb) tNoPart) σ (l.drop e.toNat) := fun H1 s Q q => h H1 s _ fun v H2 s2 r => g H2 (s.trans s2) _ fun w H3 s3 r3 => by
  cases (show w = .int e from r3)
  obtain ⟨a, us, rfl, na, hA, hP, hl⟩ := r
  refine ⟨e, rfl, a, us, rfl, .inl (.inl (s3 _ _ hA)), fun c nc => ?_⟩
  have ec : cutV us (some e) none = us.drop e.toNat := by
    obtain ⟨n, rfl⟩ := Int.eq_ofNat_of_zero_le he
    exact cut_from us n
  rw [ec]
  exact q c _ ((s2.trans s3).free nc) (s2.trans (s3.trans (sameU nc))) ⟨c, _, rfl, (fr.same (s.trans (s2.trans s3))).out nc, upd_same, Paired.drop _ (L2.Paired.mapP hP fun _ _ z => k.same (s3.trans (sameU nc)) z), Nat.le_trans (by rw [List.length_drop]; omega) hl⟩
end
end Ew
namespace Ew
open PySem PySem.Spec PyProof.Rows L2
def gAt : Option Int → At
  | some g => .int g
  | none => .non
def lkM (l : Link) : Md := .tup [.int l.1, .int l.2.1, gAt l.2.2]
def TpC : Tp → Prop
  | .md m => MdOk m
  | .tup l => l.length ≤ 12 ∧ ∀ m ∈ l, MdOk m
  | .lst l => l.length ≤ 12 ∧ ∀ m ∈ l, MdOk m
theorem gAt_ok {g : Option Int} (h : ∀ x, g = some x → 0 ≤ x ∧ x ≤ 6) : gAt g ∈ adom := by
  cases g with
  | none => exact (by decide +kernel)
  | some x => exact (dig_mem (h x rfl)).2
theorem lkM_ok {l : Link} (h : LkOk l) : MdOk (lkM l) := ⟨by simp, fun a ha => by
  simp only [List.mem_cons, List.not_mem_nil, or_false] at ha
  rcases ha with rfl | rfl | rfl
  · exact (dig_mem h.1).2
  · exact (dig_mem h.2.1).2
  · exact gAt_ok h.2.2⟩
section
variable {K : PySem.W.Frag} {C : Addr} {α : Type} {k : Kd K C α} {S : List Addr} {H : Hp} {σ : L2.St} {ta tb te : TE} {f : Addr} {i : Nat} {v : V}
theorem at_gO {g : Option Int} (h : (kO (kI (K := K) (C := C))).rp S H v g) : (kAt (K := K) (C := C)).rp S H v (gAt g) := by
  cases g <;> exact h
theorem lk_rp {l : Link} (h : (kLink (K := K) (C := C)).rp S H v l) : (kMd (K := K) (C := C)).rp S H v (lkM l) := by
  obtain ⟨t, v1, v2, v3, rfl, hT, h1, h2, h3⟩ := h
  exact ⟨t, _, rfl, hT, .cons h1 (.cons h2 (.cons (at_gO h3) .nil)), by simp⟩
theorem lkP_rp {vs : List V} {ls : List Link} (h : Paired ((kLink (K := K) (C := C)).rp S H) vs ls) : Paired ((kMd (K := K) (C := C)).rp S H) vs (ls.map lkM) := by
  induction h with
  | nil => exact .nil
  | cons a t ih => exact .cons (lk_rp a) ih
theorem lkL_rp {ls : List Link} (h : (kL (kLink (K := K) (C := C))).rp S H v ls) : (kL (kMd (K := K) (C := C))).rp S H v (ls.map lkM) := by
  obtain ⟨t, us, rfl, n, hT, hP, hl⟩ := h
  exact ⟨t, us, rfl, n, hT, lkP_rp hP, by rw [List.length_map]; exact hl⟩
theorem lkT_rp {ls : List Link} (h : (kT (kLink (K := K) (C := C))).rp S H v ls) : (kT (kMd (K := K) (C := C))).rp S H v (ls.map lkM) := by
  obtain ⟨t, us, rfl, hT, hP, hl⟩ := h
  exact ⟨t, us, rfl, hT, lkP_rp hP, by rw [List.length_map]; exact hl⟩
theorem ev_lkL {ls : List Link} (h : Ev (kL (kLink (K := K) (C := C))) S H te σ ls) : Ev (kL (kMd (K := K) (C := C))) S H te σ (ls.map lkM) := fun H1 s Q q => h H1 s Q fun v H2 s2 r => q v H2 s2 (lkL_rp r)
theorem ev_lkT {ls : List Link} (h : Ev (kT (kLink (K := K) (C := C))) S H te σ ls) : Ev (kT (kMd (K := K) (C := C))) S H te σ (ls.map lkM) := fun H1 s Q q => h H1 s Q fun v H2 s2 r => q v H2 s2 (lkT_rp r)
theorem evf_pickS {l : List α} {Q : VK} (fr : Fr C S H) (hm : f ∈ S) (e : σ[i]? = some (some (.ref f))) (hf : FeedAt H f) (h : Ev (kL k) S H tb σ l) (hne : l ≠ []) (hl : l.length < 1000) (q : ∀ v H2 x, Ext1 f H H2 → k.rp S H2 v x → x ∈ l → Q v H2) : tCall (spPick K) [] C8.E0 (tCons (tVar i) (tCons tb tNil)) σ H Q := ⟨_, e, h.use fun v H2 s r => by
  obtain ⟨a, vs, rfl, na, hA, p, _⟩ := r
  have hp := pLen p
  have e2 := Ext1.same hf s
  refine ⟨f, a, vs, rfl, e2.feed, .inl (.inl hA), fun z => na (by rw [z]; exact hm), by rw [hp]; exact List.length_pos_iff.mpr hne, by omega, fun H3 v e3 hv => ?_⟩
  obtain ⟨x, m, rx⟩ := paired_mem p hv
  exact q v H3 x (e2.trans e3) ((lf_ext (fr.same s) hm e3).go k v x rx) m⟩
theorem pSet {α β : Type} {R : α → β → Prop} : ∀ {xs : List α} {ys : List β} {n : Nat} {u : α} {w : β}, Paired R xs ys → R u w → Paired R (xs.set n u) (ys.set n w)
  | _, _, n, _, _, .nil, _ => by simp; exact .nil
  | _, _, 0, _, _, .cons a t, r => .cons r t
  | _, _, n + 1, _, _, .cons a t, r => .cons a (pSet t r)
end
section
variable {P : Program} {w : World} {K : PySem.W.Frag} {mg : Str → Option Value} {base : Heap} {C : Addr}
abbrev sNearC : Stmt := (top 44)
def spNearC (K : PySem.W.Frag) (C : Addr) : Sp := fun vs H Q _ => ∃ f vR vL vW ls, vs = [.ref f, vR, vL, vW] ∧ FeedAt H f ∧ (kLinks (K := K) (C := C)).rp [f] H vL ls ∧ ls.length ≤ 8 ∧ (∀ l ∈ ls, LkOk l) ∧ ∀ u H' tp, Ext1 f H H' → (kTp (K := K) (C := C)).rp [f] H' u tp → TpC tp → Q u H'
theorem scNearC : FnScope ["feed", "readers", "links", "works", "some", "way", "at", "one", "reader", "takes", "gives", "rows"] ["feed", "readers", "links", "works"] (defScope sNearC) := ⟨rfl, rfl, rfl, by decide +kernel, rfl, by decide +kernel, by decide +kernel⟩
set_option maxHeartbeats 0 in
theorem c__law_near_chain (D : DefAt K mg "_law_near_chain" sNearC ["feed", "readers", "links", "works"]) (B : Bi mg) (c__law_take : C8.Cal P w K mg base 1 "_law_take" spTake []) (c__law_pick : C8.Cal P w K mg base 2 "_law_pick" (spPick K) []) : C8.Cal P w K mg base 3 "_law_near_chain" (spNearC K C) [] := by
  refine cal_of D scNearC (fun vs H Q E h => by obtain ⟨f, vR, vL, vW, ls, rfl, _⟩ := h; rfl) fun f0 cdv A outer s H vs Q E hr h => ?_
  obtain ⟨f, vR, vL, vW, ls, rfl, hf, h_links, l8, lok, q⟩ := h
  refine ⟨_, (pss_cons (ps_par (i := 4) (j := 5) (by rfl) scNearC.nd rfl rfl (by decide) rfl rfl (pa_cons (pe_callTy call_list_of (by rfl) B.list (by decide +kernel) (pa_cons (pv 2) pa_nil)) (pa_cons (C8.pe_c c__law_take hr (by decide) (by rfl) (pa_cons (pv 0) (pa_cons pe_int pa_nil))) pa_nil)) (by rfl))
 (pss_cons (ps_if (PW.pt (pw_or (pt_cmpR op_eq (pv 5) pe_int (nomark _)) (pw_or1 (pt_cmpR (op_eqNil (Nat.lt_of_le_of_lt (Nat.le_add_right _ 64) hr.units)) (pv 4) (pe_lst pa_nil) (nomark _))))) (pss_cons (ps_set (i := 4) scNearC.nd rfl (.inl rfl) (pe_lst (pa_cons (pe_callTy call_tuple_of (by rfl) B.tuple (by decide +kernel) (pa_cons (pv 2) pa_nil)) (pa_cons pe_non (pa_cons pe_dnewK (pa_cons pe_str (pa_cons (pe_lst (pa_cons pe_non pa_nil)) (pa_cons (pe_lst (pa_cons (pe_tup pa_nil) pa_nil)) (pa_cons (pe_lst pa_nil) (pa_cons pe_int (pa_cons pe_bl (pa_cons (pe_slice sl_list (pv 2) (po_some pe_int) po_none) pa_nil))))))))))))
 (pss_one (ps_ret (C8.pe_c c__law_pick hr (by decide) (by rfl) (pa_cons (pv 0) (pa_cons (pe_op op_cat (pv 4) (pe_lst (pa_cons (pe_op op_cat (pv 2) (pe_lst (pa_cons (pe_tup (pa_cons pe_int (pa_cons pe_int (pa_cons pe_non pa_nil)))) pa_nil))) pa_nil))) pa_nil)))))) pss_nil)
 (pss_cons (ps_set (i := 6) scNearC.nd rfl (.inl rfl) (C8.pe_c c__law_take hr (by decide) (by rfl) (pa_cons (pv 0) (pa_cons (pe_callB call_len_seq (by rfl) B.len PySem.boot_len (pa_cons (pv 4) pa_nil)) pa_nil))))
 (pss_cons (ps_set (i := 7) scNearC.nd rfl (.inl rfl) (C8.pe_c c__law_pick hr (by decide) (by rfl) (pa_cons (pv 0) (pa_cons (pe_lst (pa_cons pe_non (pa_cons pe_bl (pa_cons pe_bl (pa_cons (pe_un un_neg pe_int) (pa_cons pe_int (pa_cons pe_int (pa_cons pe_int (pa_cons pe_int (pa_cons pe_str (pa_cons (pe_lst pa_nil) (pa_cons pe_dnewK pa_nil)))))))))))) pa_nil))))
 (pss_cons (ps_asg (pe_ix ix_list (pv 4) (pv 6) (fun _ _ => rfl)) (pg_tup (by rfl) (pgs_cons (pg_name (i := 8) scNearC.nd rfl (.inl rfl)) (pgs_cons (pg_name (i := 9) scNearC.nd rfl (.inl rfl)) (pgs_cons (pg_name (i := 10) scNearC.nd rfl (.inl rfl)) pgs_nil)))))
 (pss_cons (ps_set (i := 11) scNearC.nd rfl (.inl rfl) (pe_lst (pa_cons (pe_tup (pa_cons (pv 7) (pa_cons (pv 9) (pa_cons (pv 10) pa_nil)))) (pa_cons (pe_tup (pa_cons (pv 8) (pa_cons (pv 7) (pa_cons (pv 10) pa_nil)))) (pa_cons (pe_tup (pa_cons (pv 8) (pa_cons (pv 9) (pa_cons (pv 7) pa_nil)))) (pa_cons (pe_tup (pa_cons (pv 8) (pa_cons (pv 9) pa_nil))) (pa_cons (pe_lst (pa_cons (pv 8) (pa_cons (pv 9) (pa_cons (pv 10) pa_nil)))) pa_nil)))))))
 (pss_cons (ps_asg (C8.pe_c c__law_pick hr (by decide) (by rfl) (pa_cons (pv 0) (pa_cons (pe_op op_cat (pv 11) (pe_lst (pa_cons (pe_tup (pa_cons (pv 8) (pa_cons (pv 9) (pa_cons (pv 10) (pa_cons pe_int pa_nil))))) (pa_cons (pe_tup (pa_cons (pv 9) (pa_cons (pv 8) (pa_cons (pv 10) pa_nil)))) (pa_cons pe_non (pa_cons (pe_tup (pa_cons (pv 8) (pa_cons (pv 9) (pa_cons pe_non pa_nil)))) pa_nil)))))) pa_nil))) (pg_sub (pv 4) (pv 6) set_list))
 (pss_cons (ps_if (pt_cmpR op_eq (pv 5) pe_int (nomark _)) (pss_one (ps_expr (pe_bm PySem.F.plainAttrs_list PySem.F.slot_list_append PySem.F.type_list_append mt_append (pv 4) (pa_cons (pe_ix ix_list (pv 2) (pv 6) (fun _ _ => rfl)) pa_nil)))) pss_nil)
 (pss_one (ps_ret (pv 4))))))))))), ?_⟩
  try dsimp only [cxOf, Cx.nox, Cx.wish]
  have fr : Fr C [f] H := fr_feed hf
  refine q_parR (S := [f]) (k := kLinks) (evn_copyL (ev_var (i := 2) rfl h_links Lf.refl) fr) fun p H1 n1 s1 r1 => ?_
  have e1 := Ext1.same hf s1
  refine evf_take (K := K) (C := C) (i := 0) rfl e1.feed ev_int (by decide) (by decide) _ fun v5 H2 way e2 r5 hw => ⟨_, _, rfl, ?_⟩
  cases (show v5 = .int way from r5)
  try dsimp only [List.set]
  have fr1 := fr.same s1
  have fr2 : Fr C [f] H2 := fr_feed e2.feed
  have l12 := lf_ext (K := K) fr1 (by simp) e2
  have e02 := e1.trans e2
  have hL2 := l12.go _ _ _ (kLinks.same s1 h_links)
  have hp2 := l12.go _ _ _ r1
  have wE : ∀ {Hc : Hp} {σ : L2.St}, σ[5]? = some (some (.int way)) → Ev (K := K) (C := C) kI [f] Hc (tVar 5) σ way := fun e => ev_var e (show (kI (K := K) (C := C)).rp _ _ (.int way) way from rfl) Lf.refl
  have mok : ∀ m ∈ ls.map lkM, MdOk m := fun m hm => by
    obtain ⟨l, hl, rfl⟩ := List.mem_map.mp hm
    exact lkM_ok (lok l hl)
  refine q_if (evt_or (evt_test (ev_eqI (wE rfl) ev_int)) fun _ => evt_test (ev_eqNil (k := kLink) (ev_var (i := 4) rfl hp2 Lf.refl) fr2)) (fun H3 hb s3 => ?_) fun H3 hb s3 => ?_
  · have fr3 := fr2.same s3
    have lE : ∀ {Hc : Hp} {σ : L2.St}, Same H2 Hc → σ[2]? = some (some vL) → Ev (K := K) (C := C) kLinks [f] Hc (tVar 2) σ ls := fun sc e => ev_var e hL2 (.same sc)
    refine q_setN (i := 4) (S := [f]) (k := kL (kTp (K := K) (C := C))) (evn_lst (k := (kTp : Kd K C _)) (xs := [.tup (ls.map lkM), .md (.at .non), .md (.at .emD), .md (.at (.str "")), .md (.lst [.non]), .lst [.tup []], .md (.at .emL), .md (.at (.int 5)), .md (.at (.bl true)), .lst ((ls.drop (1 : Int).toNat).map lkM)])
      (evl_cons (ev_tT (ev_lkT (ev_tupL (lE s3 rfl)))) (evl_cons (ev_tM (ev_mA ev_aN)) (evl_cons (ev_tM (ev_mA (ev_aD fr3))) (evl_cons (ev_tM (ev_mA ev_aS)) (evl_cons (ev_tM (ev_mL (EvN.ev (evn_l1 (k := kAt) ev_aN fr3)))) (evl_cons (ev_tL (EvN.ev (evn_l1 (k := kMd) (ev_mT (ev_t0 (k := kAt))) fr3))) (evl_cons (ev_tM (ev_mA (ev_aL fr3))) (evl_cons (ev_tM (ev_mA (ev_aI ev_int))) (evl_cons (ev_tM (ev_mA ev_aB)) (evl_cons (ev_tL (ev_lkL (EvN.ev (evn_dropE (k := kLink) (lE s3 rfl) ev_int (by decide) fr3)))) evl_nil)))))))))) fr3) fun p4 H4 n4 s4 h4 => ?_
    try dsimp only [List.set]
    have fr4 := fr3.same s4
    have e04 := e02.trans (Ext1.same e02.feed (s3.trans s4))
    refine evf_pick (K := K) (C := C) (k := kTp) (i := 0) (l := [.tup (ls.map lkM), .md (.at .non), .md (.at .emD), .md (.at (.str "")), .md (.lst [.non]), .lst [.tup []], .md (.at .emL), .md (.at (.int 5)), .md (.at (.bl true)), .lst ((ls.drop (1 : Int).toNat).map lkM)] ++ [.lst ((ls ++ [(0, 0, none)]).map lkM)]) rfl e04.feed
      (EvN.ev (evn_catL (ev_var (i := 4) rfl h4 Lf.refl) (EvN.ev (evn_l1 (k := kTp) (ev_tL (ev_lkL (EvN.ev (evn_catL (k := kLink) (lE (s3.trans s4) rfl) (EvN.ev (evn_l1 (k := kLink) (ev_t3 ev_int ev_int ev_none) fr4)) fr4 (by simp; omega))))) fr4)) fr4 (by simp))) (by simp) (by simp) _ fun u H5 tp e5 hu hm => q u H5 tp (e04.trans e5) hu ?_
    simp only [List.mem_append, List.mem_cons, List.not_mem_nil, or_false] at hm
    rcases hm with (rfl | rfl | rfl | rfl | rfl | rfl | rfl | rfl | rfl | rfl) | rfl
    · exact ⟨by rw [List.length_map]; omega, mok⟩
    · exact (show At.non ∈ adom by decide +kernel)
    · exact (show At.emD ∈ adom by decide +kernel)
    · exact (show At.str "" ∈ adom by decide +kernel)
    · exact ⟨by simp, fun a ha => by rw [List.mem_singleton.mp ha]; decide +kernel⟩
    · exact ⟨by simp, fun m hm => by rw [List.mem_singleton.mp hm]; exact ⟨by simp, fun a ha => by cases ha⟩⟩
    · exact (show At.emL ∈ adom by decide +kernel)
    · exact (show At.int 5 ∈ adom by decide +kernel)
    · exact (show At.bl true ∈ adom by decide +kernel)
    · refine ⟨by rw [List.length_map, List.length_drop]; omega, fun m hm => ?_⟩
      obtain ⟨l, hl, rfl⟩ := List.mem_map.mp hm
      exact lkM_ok (lok l (List.mem_of_mem_drop hl))
    · refine ⟨by rw [List.length_map, List.length_append, List.length_singleton]; omega, fun m hm => ?_⟩
      obtain ⟨l, hl, rfl⟩ := List.mem_map.mp hm
      rcases List.mem_append.mp hl with hl | hl
      · exact lkM_ok (lok l hl)
      · rw [List.mem_singleton.mp hl]
        exact lkM_ok ⟨⟨by decide, by decide⟩, ⟨by decide, by decide⟩, fun g hg => by cases hg⟩
  · have hne : ls ≠ [] := fun e => by rw [e] at hb; simp at hb
    have e03 := e02.trans (Ext1.same e02.feed s3)
    obtain ⟨p', us, hpe, hpn, hp3, hP3, _⟩ := kLinks.same s3 hp2
    cases hpe
    have pf : p ≠ f := fun e => hpn (by simp [e])
    have lus : us.length = ls.length := pLen hP3
    have n1H : H p = none := n1
    have fr3 : Fr C [p, f] H3 := fun a m => by
      rcases List.mem_cons.mp m with rfl | m
      · exact ⟨_, hp3, trivial⟩
      · exact (fr2.same s3) a m
    have hp3f : (kLinks (K := K) (C := C)).rp [f] H3 (.ref p) ls := ⟨p, us, rfl, hpn, hp3, hP3, by omega⟩
    refine q_setF (f := f) (i := 6) (evf_take (K := K) (C := C) (i := 0) rfl e03.feed (ev_lenL (ev_var (i := 4) (k := kLinks) rfl hp3f Lf.refl)) (by have := List.length_pos_iff.mpr hne; omega) (by omega)) fun v6 H4 a e4 r6 ha => ?_
    cases (show v6 = .int a from r6)
    try dsimp only [List.set]
    have e04 := e03.trans e4
    have fr4f : Fr C [f] H4 := fr_feed e4.feed
    refine q_setF (f := f) (i := 7) (evf_pick (K := K) (C := C) (k := kAt) (i := 0) (l := [.non, .bl true, .bl false, .int (-1), .int 0, .int 1, .int 2, .int 5, .str "0", .emL, .emD]) rfl e4.feed (EvN.ev (evn_lst (k := (kAt : Kd K C _)) (xs := [.non, .bl true, .bl false, .int (-1), .int 0, .int 1, .int 2, .int 5, .str "0", .emL, .emD]) (evl_cons ev_aN (evl_cons ev_aB (evl_cons ev_aB (evl_cons (ev_aI (ev_neg ev_int)) (evl_cons (ev_aI ev_int) (evl_cons (ev_aI ev_int) (evl_cons (ev_aI ev_int) (evl_cons (ev_aI ev_int) (evl_cons ev_aS (evl_cons (ev_aL fr4f) (evl_cons (ev_aD fr4f) evl_nil))))))))))) fr4f)) (by simp) (by simp)) fun v7 H5 one e5 h7 hm => ?_
    try dsimp only [List.set]
    have ho : one ∈ adom := by
      simp only [List.mem_cons, List.not_mem_nil, or_false] at hm
      rcases hm with rfl | rfl | rfl | rfl | rfl | rfl | rfl | rfl | rfl | rfl | rfl <;> decide +kernel
    have e05 := e04.trans e5
    have e35 := e4.trans e5
    have hp5 := e35.1 _ _ pf hp3
    have hP5 : Paired ((kLink (K := K) (C := C)).rp [f] H5) us ls := L2.Paired.mapP hP3 fun _ _ z => (lf_ext (fr_feed (C := C) e03.feed) (by simp) e35).go kLink _ _ z
    have fr5f : Fr C [f] H5 := fr_feed e5.feed
    have fr5 : Fr C [p, f] H5 := fun b m => by
      rcases List.mem_cons.mp m with rfl | m
      · exact ⟨_, hp5, trivial⟩
      · exact fr5f b m
    have hp5f : (kLinks (K := K) (C := C)).rp [f] H5 (.ref p) ls := ⟨p, us, rfl, hpn, hp5, hP5, by omega⟩
    have aE : ∀ {Hc : Hp} {σ : L2.St} {S : List Addr}, σ[6]? = some (some (.int a)) → Ev (K := K) (C := C) kI S Hc (tVar 6) σ a := fun e => ev_var e (show (kI (K := K) (C := C)).rp _ _ (.int a) a from rfl) Lf.refl
    have ia : 0 ≤ a ∧ a < ls.length := ha
    refine q_set3 (i := 8) (j := 9) (m := 10) (k := kI) (k1 := kI) (k2 := kO kI) (ev_ixL (k := kLink) (ev_var (i := 4) (k := kLinks) rfl hp5f Lf.refl) (aE rfl) ia) fun v8 v9 v10 H6 s6 h8 h9 h10 => ?_
    try dsimp only [List.set]
    have lka := lok _ (at_mem ia)
    generalize hlk : at_ ls a = lk at *
    have e06 := e05.trans (Ext1.same e05.feed s6)
    have fr6 := fr5.same s6
    -- one is no part of the list
    have h7p : (kAt (K := K) (C := C)).rp [p, f] H6 v7 one := by
      have h7 := (kAt (K := K) (C := C)).same s6 h7
      have hp6 := s6 _ _ hp5
      have uL : us ≠ [] := fun e => by rw [e] at lus; exact hne (List.length_eq_zero_iff.mp lus.symm)
      cases one with
      | non => exact h7
      | bl b => exact h7
      | int i => exact h7
      | str b => exact h7
      | emL =>
        obtain ⟨b, rfl, nb, hb⟩ := h7
        refine ⟨b, rfl, fun z => ?_, hb⟩
        rcases List.mem_cons.mp z with rfl | z
        · rw [hp6] at hb; cases hb; exact uL rfl
        · exact nb z
      | emD =>
        obtain ⟨b, rfl, nb, hb⟩ := h7
        refine ⟨b, rfl, fun z => ?_, hb⟩
        rcases List.mem_cons.mp z with rfl | z
        · rw [hp6] at hb; cases hb
        · exact nb z
    have oE : ∀ {Hc : Hp} {σ : L2.St}, Same H6 Hc → σ[7]? = some (some v7) → Ev (K := K) (C := C) kAt [p, f] Hc (tVar 7) σ one := fun sc e => ev_var e h7p (.same sc)
    have h8 : v8 = .int lk.1 := h8
    have h9 : v9 = .int lk.2.1 := h9
    subst h8
    subst h9
    have rE : ∀ {Hc : Hp} {σ : L2.St}, σ[8]? = some (some (.int lk.1)) → Ev (K := K) (C := C) kAt [p, f] Hc (tVar 8) σ (.int lk.1) := fun e => ev_aI (ev_var e (show (kI (K := K) (C := C)).rp _ _ (.int lk.1) lk.1 from rfl) Lf.refl)
    have tE : ∀ {Hc : Hp} {σ : L2.St}, σ[9]? = some (some (.int lk.2.1)) → Ev (K := K) (C := C) kAt [p, f] Hc (tVar 9) σ (.int lk.2.1) := fun e => ev_aI (ev_var e (show (kI (K := K) (C := C)).rp _ _ (.int lk.2.1) lk.2.1 from rfl) Lf.refl)
    have h10p : (kAt (K := K) (C := C)).rp [p, f] H6 v10 (gAt lk.2.2) := by
      have h10 : (kO (kI (K := K) (C := C))).rp [p, f] H6 v10 lk.2.2 := by cases e : lk.2.2 <;> rw [e] at h10 <;> exact h10
      exact at_gO h10
    have gE : ∀ {Hc : Hp} {σ : L2.St}, Same H6 Hc → σ[10]? = some (some v10) → Ev (K := K) (C := C) kAt [p, f] Hc (tVar 10) σ (gAt lk.2.2) := fun sc e => ev_var e h10p (.same sc)
    refine q_setN (i := 11) (S := [p, f]) (k := kL (kMd (K := K) (C := C))) (evn_lst (k := (kMd : Kd K C _)) (xs := [.tup [one, .int lk.2.1, gAt lk.2.2], .tup [.int lk.1, one, gAt lk.2.2], .tup [.int lk.1, .int lk.2.1, one], .tup [.int lk.1, .int lk.2.1], .lst [.int lk.1, .int lk.2.1, gAt lk.2.2]])
      (evl_cons (ev_mT (ev_tupD (k := kAt) (xs := [one, .int lk.2.1, gAt lk.2.2]) (evl_cons (oE (Same.refl _) rfl) (evl_cons (tE rfl) (evl_cons (gE (Same.refl _) rfl) evl_nil))))) (evl_cons (ev_mT (ev_tupD (k := kAt) (xs := [.int lk.1, one, gAt lk.2.2]) (evl_cons (rE rfl) (evl_cons (oE (Same.refl _) rfl) (evl_cons (gE (Same.refl _) rfl) evl_nil))))) (evl_cons (ev_mT (ev_tupD (k := kAt) (xs := [.int lk.1, .int lk.2.1, one]) (evl_cons (rE rfl) (evl_cons (tE rfl) (evl_cons (oE (Same.refl _) rfl) evl_nil))))) (evl_cons (ev_mT (ev_tupD (k := kAt) (xs := [.int lk.1, .int lk.2.1]) (evl_cons (rE rfl) (evl_cons (tE rfl) evl_nil)))) (evl_cons (ev_mL (EvN.ev (evn_lst (k := kAt) (xs := [.int lk.1, .int lk.2.1, gAt lk.2.2]) (evl_cons (rE rfl) (evl_cons (tE rfl) (evl_cons (gE (Same.refl _) rfl) evl_nil))) fr6))) evl_nil))))) fr6) fun p11 H7 n11 s7 h11 => ?_
    try dsimp only [List.set]
    have fr7 := fr6.same s7
    have e07 := e06.trans (Ext1.same e06.feed s7)
    have s57 := s6.trans s7
    refine evf_pickS (K := K) (C := C) (k := kMd) (S := [p, f]) (f := f) (i := 0) (l := [.tup [one, .int lk.2.1, gAt lk.2.2], .tup [.int lk.1, one, gAt lk.2.2], .tup [.int lk.1, .int lk.2.1, one], .tup [.int lk.1, .int lk.2.1], .lst [.int lk.1, .int lk.2.1, gAt lk.2.2]] ++ [.tup [.int lk.1, .int lk.2.1, gAt lk.2.2, .int 0], .tup [.int lk.2.1, .int lk.1, gAt lk.2.2], .at .non, .tup [.int lk.1, .int lk.2.1, .non]]) fr7 (by simp) rfl e07.feed
      (EvN.ev (evn_catL (ev_var (i := 11) rfl h11 Lf.refl) (EvN.ev (evn_lst (k := (kMd : Kd K C _)) (xs := [.tup [.int lk.1, .int lk.2.1, gAt lk.2.2, .int 0], .tup [.int lk.2.1, .int lk.1, gAt lk.2.2], .at .non, .tup [.int lk.1, .int lk.2.1, .non]])
        (evl_cons (ev_mT (ev_tupD (k := kAt) (xs := [.int lk.1, .int lk.2.1, gAt lk.2.2, .int 0]) (evl_cons (rE rfl) (evl_cons (tE rfl) (evl_cons (gE s7 rfl) (evl_cons (ev_aI ev_int) evl_nil)))))) (evl_cons (ev_mT (ev_tupD (k := kAt) (xs := [.int lk.2.1, .int lk.1, gAt lk.2.2]) (evl_cons (tE rfl) (evl_cons (rE rfl) (evl_cons (gE s7 rfl) evl_nil))))) (evl_cons (ev_mA ev_aN) (evl_cons (ev_mT (ev_tupD (k := kAt) (xs := [.int lk.1, .int lk.2.1, .non]) (evl_cons (rE rfl) (evl_cons (tE rfl) (evl_cons ev_aN evl_nil))))) evl_nil)))) fr7)) fr7 (by simp))) (by simp) (by simp) fun u H8 m e8 hu hmm => ?_
    have hp8 := e8.1 _ _ pf (s57 _ _ hp5)
    have ga := gAt_ok lka.2.2
    have ra := (dig_mem lka.1).2
    have ta := (dig_mem lka.2.1).2
    have mk : MdOk m := by
      have key : ∀ l : List At, l.length ≤ 20 → (∀ x ∈ l, x = one ∨ x = .int lk.1 ∨ x = .int lk.2.1 ∨ x = gAt lk.2.2 ∨ x = .int 0 ∨ x = .non) → l.length ≤ 20 ∧ ∀ x ∈ l, x ∈ adom := fun l h1 h2 => ⟨h1, fun x hx => by
        rcases h2 x hx with rfl | rfl | rfl | rfl | rfl | rfl
        · exact ho
        · exact ra
        · exact ta
        · exact ga
        · decide +kernel
        · decide +kernel⟩
      simp only [List.mem_append, List.mem_cons, List.not_mem_nil, or_false] at hmm
      rcases hmm with (rfl | rfl | rfl | rfl | rfl) | (rfl | rfl | rfl | rfl)
      case inr.inr.inr.inl => exact (show At.non ∈ adom by decide +kernel)
      all_goals
        refine key _ (by simp) fun x hx => ?_
        simp only [List.mem_cons, List.not_mem_nil, or_false] at hx
        first
          | (rcases hx with rfl | rfl | rfl | rfl <;> simp)
          | (rcases hx with rfl | rfl | rfl <;> simp)
          | (rcases hx with rfl | rfl <;> simp)
    refine ⟨_, rfl, _, rfl, p, us, a, a.toNat, rfl, rfl, hp8, by unfold ixN; rw [if_pos ia.1, if_pos (show a < (us.length : Int) by omega)], ?_⟩
    have e08 := e07.trans e8
    have fr8 : Fr C [p, f] H8 := (sx_ext fr7 (f := f) (by simp) e8).fr
    have hP8 : Paired ((kMd (K := K) (C := C)).rp [p, f] H8) us (ls.map lkM) := lkP_rp (L2.Paired.mapP hP5 fun _ _ z => kLink_any ((lf_ext (fr_feed (C := C) e07.feed) (by simp) e8).go kLink _ _ (kLink.same s57 z)))
    have sx9 : Sx C [p, f] H8 (upd H8 p (.lst (us.set a.toNat u))) := sx_upd fr8 (by simp) trivial
    have e09 : Ext1 f H (upd H8 p (.lst (us.set a.toNat u))) := e08.own n1H pf (.lst hp8)
    have hP9 : Paired ((kMd (K := K) (C := C)).rp [p, f] (upd H8 p (.lst (us.set a.toNat u)))) (us.set a.toNat u) ((ls.map lkM).set a.toNat m) := L2.Paired.mapP (pSet hP8 hu) fun _ _ z => kMd.sx fr8 sx9 z
    have hp9 : (upd H8 p (.lst (us.set a.toNat u))) p = some (.lst (us.set a.toNat u)) := upd_same
    have fr9 := sx9.fr
    have hL9 : (kLinks (K := K) (C := C)).rp [p, f] H3 vL ls := by
      obtain ⟨b, vs, rfl, nb, hb, hPb, hlb⟩ := kLinks.same s3 hL2
      refine ⟨b, vs, rfl, fun z => ?_, hb, L2.Paired.mapP hPb fun _ _ z => kLink_any z, hlb⟩
      rcases List.mem_cons.mp z with rfl | z
      · obtain ⟨b', _, eb, _, hb', _⟩ := h_links
        cases eb
        rw [n1H] at hb'
        cases hb'
      · exact nb z
    have hL9 := (lf_ext fr3 (f := f) (by simp) ((e35.trans (Ext1.same e5.feed s57)).trans e8)).go _ _ _ hL9
    have hL9 := kLinks.sx fr8 sx9 hL9
    have okset : ∀ m' ∈ (ls.map lkM).set a.toNat m, MdOk m' := fun m' hm' => by
      rcases List.mem_or_eq_of_mem_set hm' with h | rfl
      · exact mok m' h
      · exact mk
    generalize (upd H8 p (.lst (us.set a.toNat u))) = H9 at *
    generalize us.set a.toNat u = us9 at *
    refine q_if (evt_test (ev_eqI (wE rfl) ev_int)) (fun H10 hb s10 => ?_) fun H10 hb s10 => ?_
    · refine ⟨_, rfl, .inl ⟨rfl, _, .inl (.inl (s10 _ _ hp9))⟩, ?_⟩
      refine (ev_ixL (k := kLink) (ev_var (i := 2) rfl hL9 (.same s10)) (aE rfl) ia).use fun u2 H11 s11 r2 => ?_
      have hp11 := s11 _ _ (s10 _ _ hp9)
      have fr11 := (fr9.same s10).same s11
      refine ⟨p, _, u2, rfl, rfl, hp11, szl (by rw [pLen hP9, List.length_set, List.length_map]; omega), ?_⟩
      have sx12 : Sx C [p, f] H11 (upd H11 p (.lst (us9 ++ [u2]))) := sx_upd fr11 (by simp) trivial
      have e11 := e09.trans (Ext1.same e09.feed (s10.trans s11))
      refine ⟨_, rfl, q _ _ (.lst ((ls.map lkM).set a.toNat m ++ [lkM lk])) (e11.own n1H pf (.lst hp11)) ⟨p, _, rfl, hpn, upd_same, ?_, by rw [List.length_append, List.length_set, List.length_map, List.length_singleton]; omega⟩ ⟨by rw [List.length_append, List.length_set, List.length_map, List.length_singleton]; omega, fun m' hm' => ?_⟩⟩
      · rw [hlk] at r2
        refine Paired.app (L2.Paired.mapP hP9 fun _ _ z => kMd.less (fun b hb => by simp at hb; simp [hb]) (kMd.sx fr11 sx12 (kMd.same (s10.trans s11) z))) (.cons ?_ .nil)
        exact kMd.less (fun b hb => by simp at hb; simp [hb]) (kMd.sx fr11 sx12 (lk_rp r2))
      · rcases List.mem_append.mp hm' with h | h
        · exact okset m' h
        · rw [List.mem_singleton.mp h]
          exact lkM_ok lka
    · have e10 := e09.trans (Ext1.same e09.feed s10)
      exact ⟨_, rfl, q _ _ (.lst ((ls.map lkM).set a.toNat m)) e10 ⟨p, _, rfl, hpn, s10 _ _ hp9, L2.Paired.mapP hP9 fun _ _ z => kMd.less (fun b hb => by simp at hb; simp [hb]) (kMd.same s10 z), by rw [List.length_set, List.length_map]; omega⟩ ⟨by rw [List.length_set, List.length_map]; omega, okset⟩⟩
end
end Ew
namespace Ew
open PySem PySem.Spec PyProof.Rows L2
theorem lastF_nd {ts : List Int} (h : ts.Nodup) : ∀ k, (lastF ts k).Nodup
  | 0 => by simp [lastF]
  | k + 1 => by
    rw [lastF]
    refine List.pairwise_flatMap.mpr ⟨fun one _ => ?_, (lastF_nd h k).imp fun ne x hx y hy e => ?_⟩
    · unfold setsOne
      refine List.pairwise_map.mpr ((h.filter _).imp fun ne e => ne ?_)
      simpa using e
    · unfold setsOne at hx hy
      obtain ⟨u, _, rfl⟩ := List.mem_map.mp hx
      obtain ⟨v, _, rfl⟩ := List.mem_map.mp hy
      exact ne (List.append_inj' e rfl).1
theorem lsetsF_nd {ts : List Int} (h : ts.Nodup) : ∀ k, (lsetsF ts k).Nodup
  | 0 => lastF_nd h 0
  | k + 1 => by
    rw [lsetsF]
    refine List.nodup_append.mpr ⟨lsetsF_nd h k, lastF_nd h (k + 1), fun a ha c hc e => ?_⟩
    have h1 := (lsetsF_mem.mp ha).1
    have h2 := (last_mem.mp hc).1
    rw [e] at h1
    omega
theorem nd_sub {α : Type} [DecidableEq α] : ∀ {l m : List α}, l.Nodup → (∀ x ∈ l, x ∈ m) → l.length ≤ m.length
  | [], _, _, _ => Nat.zero_le _
  | a :: l, m, h, hs => by
    have h' := List.nodup_cons.mp h
    have ha := hs a (by simp)
    have h2 := nd_sub (m := m.erase a) h'.2 fun x hx => by
      have ne : x ≠ a := fun e => h'.1 (e ▸ hx)
      exact (List.mem_erase_of_ne ne).mpr (hs x (by simp [hx]))
    have h3 := List.length_erase_of_mem ha
    have h4 := List.length_pos_of_mem ha
    rw [List.length_cons]
    omega
theorem lsets_pow {ts : List Int} {n : Nat} (h : ts.Pairwise (· < ·)) (hr : ∀ x ∈ ts, 0 ≤ x ∧ x < (n : Int)) : (lsets ts).length ≤ 2 ^ n := by
  rw [← setsF_len n]
  have nd : (lsets ts).Nodup := lsetsF_nd (nodup_asc h) _
  refine nd_sub nd fun l hl => ?_
  obtain ⟨h1, h2⟩ := lsets_mem.mp hl
  exact setsF_mem.mpr ⟨h1, fun x hx => hr x (h2 x hx)⟩
end Ew
namespace Ew
open PySem PySem.Spec PyProof.Rows L2
section
variable {b : Bk} {kw ws : List (List Int)} {as : List Int} {z : Int}
theorem chain_lk (ok : DsOk b.ds b.rs) (hws : RowsOk b ws) : ∀ {ls : List Link} {zo : Option Int} {e : List Int}, chainB b kw ws as ls zo e = true → (∀ z, zo = some z → 0 ≤ z ∧ z ≤ 6) → e.Nodup → (∀ r ∈ e, 0 ≤ r ∧ r < (b.rs.length : Int)) → (∀ l ∈ ls, LkOk l) ∧ e.length + ls.length ≤ b.rs.length
  | [], zo, e, _, _, nd, he => ⟨fun l h => (nomatch h), by
    have := sub_len (c := iota b.rs.length) nd fun r hr => iota_mem.mpr (he r hr)
    rw [iota_len] at this
    simpa using this⟩
  | l :: ls, zo, e, h, hz, nd, he => by
    have r6 := ok.r6
    rw [chainB] at h
    cases hc : (!linkB b kw ws as zo l || decide (l.1 ∈ e)) with
    | true => rw [hc] at h; simp at h
    | false =>
      rw [hc] at h
      have h : chainB b kw ws as ls l.2.2 (e ++ [l.1]) = true := h
      obtain ⟨h1, h2⟩ := Bool.or_eq_false_iff.mp hc
      have h1 : linkB b kw ws as zo l = true := by simpa using h1
      have h2 : l.1 ∉ e := of_decide_eq_false h2
      unfold linkB at h1
      obtain ⟨h3, h4⟩ := Bool.and_eq_true_iff.mp h1
      obtain ⟨h5, h6⟩ := Bool.and_eq_true_iff.mp h4
      have ir := (presB_mem.mp (List.mem_filter.mp (of_decide_eq_true h5)).1).1
      have hg : ∀ g, l.2.2 = some g → 0 ≤ g ∧ g ≤ 6 := fun g eg => by
        rw [eg] at h6
        have := hws.row_rg ok ir g (List.mem_filter.mp (of_decide_eq_true (show decide (g ∈ looseB kw ws l.1) = true from h6))).1
        omega
      have ih := chain_lk ok hws h hg (List.nodup_append.mpr ⟨nd, by simp, fun x hx y hy e' => by rw [List.mem_singleton.mp hy] at e'; exact h2 (e' ▸ hx)⟩) (fun r hr => by
        rcases List.mem_append.mp hr with hr | hr
        · exact he r hr
        · rw [List.mem_singleton.mp hr]; exact ir)
      have ht := hz l.2.1 (of_decide_eq_true h3).symm
      refine ⟨fun l' hl => ?_, by have := ih.2; rw [List.length_append, List.length_singleton] at this; rw [List.length_cons]; omega⟩
      rcases List.mem_cons.mp hl with rfl | hl
      · exact ⟨⟨ir.1, by omega⟩, ht, hg⟩
      · exact ih.1 l' hl
theorem step_lk (ok : DsOk b.ds b.rs) (hws : RowsOk b ws) (hz : 0 ≤ z ∧ z < (b.ds.length : Int)) : match stepB b kw ws as z with
    | .inl ch => ch.length ≤ 6 ∧ ∀ l ∈ ch, LkOk l
    | .inr s => s.length ≤ 6 ∧ ∀ x ∈ s, 0 ≤ x ∧ x ≤ 6 := by
  have n6 := ok.n6
  have r6 := ok.r6
  have h := step_right (kw := kw) (as := as) (hws.rowsIn ok) n6 hz
  cases e : stepB b kw ws as z with
  | inl ch =>
    rw [e] at h
    have := chain_lk ok hws h (fun z' e' => by cases e'; omega) (by simp) (fun r hr => (nomatch hr))
    exact ⟨by have := this.2; simp at this; omega, this.1⟩
  | inr s =>
    rw [e] at h
    obtain ⟨c', rfl, sk, _, _⟩ := h
    have rg : ∀ x ∈ srt (keysOf c'), 0 ≤ x ∧ x < (b.ds.length : Int) := fun x hx => sk.rg x (srt_mem.mp hx)
    have as' : Asc (b.ds.length : Int) (srt (keysOf c')) := ⟨srt_lt sk.nd, rg⟩
    have := as'.len (by omega)
    exact ⟨by omega, fun x hx => by have := rg x hx; omega⟩
end
theorem lsets_two {n : Nat} (h : 1 ≤ n) : (lsets (iota (n : Nat))).drop (1 : Int).toNat ≠ [] := fun e => by
  have h1 : ([] : List Int) ∈ lsets (iota (n : Nat)) := lsets_mem.mpr ⟨.nil, fun x hx => (nomatch hx)⟩
  have h2 : [(0 : Int)] ∈ lsets (iota (n : Nat)) := lsets_mem.mpr ⟨by simp, fun x hx => by rw [List.mem_singleton.mp hx]; exact iota_mem.mpr ⟨by decide, by omega⟩⟩
  have e1 : (1 : Int).toNat = 1 := rfl
  rw [e1] at e
  generalize lsets (iota (n : Nat)) = l at *
  match l with
  | [] => cases h1
  | [y] =>
    rw [List.mem_singleton] at h1 h2
    rw [← h1] at h2
    cases h2
  | _ :: _ :: _ => simp at e
section
variable {K : PySem.W.Frag} {C : Addr} {α β : Type} {k : Kd K C α} {S : List Addr} {H : Hp} {σ : L2.St} {ta tb te tc : TE} {D : Ends} {u : TS} {f : Addr} {v : V} {i j : Nat}
theorem q_seqQ {t u : TS} {D : Ends} {σ : L2.St} {H : Hp} (R : L2.St → Hp → Prop) (h1 : ∀ σ' H', R σ' H' → u D σ' H') (h2 : ∀ nx : L2.St → Hp → Prop, (∀ σ' H', R σ' H' → nx σ' H') → t { D with nx := nx } σ H) : tSeq t u D σ H := h2 _ h1
theorem s_ifAndF {tu : TT} {t1 t2 : TS} {Φ : Int → Prop} {c : Int} {b : Bool} (hf : FeedAt H f) (h : EvT H tu σ b) (g : b = true → ∀ H2, Same H H2 → EvF (K := K) (C := C) f kI H2 ta σ Φ) (p : b = true → ∀ H2, Ext1 f H H2 → t1 D σ H2) (q : ∀ H2, Ext1 f H H2 → t2 D σ H2) : tIfS (tAnd tu (tTest (tOp rEq ta (tC (.int c))))) t1 t2 D σ H := h.use fun H1 s1 => by
  have e1 := Ext1.same hf s1
  cases b with
  | false => exact iteF (q H1 e1)
  | true =>
    refine iteT (g rfl H1 s1 _ fun v H2 n e r _ => ?_)
    cases (show v = .int n from r)
    refine ⟨rfl, _, rfl, ?_⟩
    show if decide (V.int n = V.int c) = true then t1 D σ H2 else t2 D σ H2
    split
    · exact p rfl H2 (e1.trans e)
    · exact q H2 (e1.trans e)
theorem s_ifGtF {t1 t2 : TS} {Φ : Int → Prop} {c : Int} (h : EvF (K := K) (C := C) f kI H ta σ Φ) (p : ∀ H2, Ext1 f H H2 → t1 D σ H2) (q : ∀ H2, Ext1 f H H2 → t2 D σ H2) : tIfS (tTest (tOp (rI0 fun i j => .bl (decide (j < i))) ta (tC (.int c)))) t1 t2 D σ H := h _ fun v H2 n e r _ => by
  cases (show v = .int n from r)
  refine ⟨n, c, rfl, rfl, decide (c < n), rfl, ?_⟩
  show if decide (c < n) = true then t1 D σ H2 else t2 D σ H2
  split
  · exact p H2 e
  · exact q H2 e
theorem ev_reprBq {b : Bool} (h : Ev (K := K) (C := C) kB S H te σ b) : Ev (K := K) (C := C) kS S H (tCB (rReprQ K) (tCons te tNil)) σ (PyData.shown (.bool b)) := fun H1 s Q q => h H1 s _ fun v H2 s2 r => by
  cases (show v = .bl b from r)
  have sm := sm_bl b
  exact ⟨PT, _, .bool b, rfl, .bl b, sm.can, Nat.le_trans sm.dep (by decide), Nat.le_trans sm.len (szL (by omega)), q _ H2 s2 rfl⟩
theorem tpc_sm {m : Tp} (h : TpC m) : Sm 3 10000 m.py := by
  cases m with
  | md a => exact (md_sm h).mono (by decide) (by decide)
  | tup l =>
    refine (sm_tuple (n := 2) (b := 700) fun d hd => ?_).mono (Nat.le_refl _) ?_
    · obtain ⟨a, ha, rfl⟩ := List.mem_map.mp hd
      exact md_sm (h.2 a ha)
    · rw [List.length_map]; have := h.1; omega
  | lst l =>
    refine (sm_list (n := 2) (b := 700) fun d hd => ?_).mono (Nat.le_refl _) ?_
    · obtain ⟨a, ha, rfl⟩ := List.mem_map.mp hd
      exact md_sm (h.2 a ha)
    · rw [List.length_map]; have := h.1; omega
theorem ws_sm {ws : List (List Int)} (ly : ws.length ≤ 6) (by_ : ∀ w ∈ ws, w.length ≤ 6 ∧ ∀ z ∈ w, Dig z) : Sm 3 10000 (dWs ws) := by
  refine (sm_list (n := 2) (b := 400) fun d hd => ?_).mono (Nat.le_refl _) ?_
  · obtain ⟨w, hw, rfl⟩ := List.mem_map.mp hd
    exact sm_dT ⟨Nat.le_trans (by_ w hw).1 (by decide), (by_ w hw).2⟩
  · rw [List.length_map]; omega
theorem ev_reprC3 {tp : Tp} {ws kw : List (List Int)} (ok : TpC tp) (hx : Ev (K := K) (C := C) kTp S H ta σ tp) (hk : Ev (kWs (K := K) (C := C)) S H tc σ kw) (hy : Ev (kWs (K := K) (C := C)) S H tb σ ws) (lk : kw.length ≤ 6) (bk : ∀ w ∈ kw, w.length ≤ 6 ∧ ∀ z ∈ w, Dig z) (ly : ws.length ≤ 6) (by_ : ∀ w ∈ ws, w.length ≤ 6 ∧ ∀ z ∈ w, Dig z) :
    Ev (K := K) (C := C) kS S H (tCB (rReprQ K) (tCons (tLst (tCons ta (tCons tc (tCons tb tNil)))) tNil)) σ (PyData.shown (.list [tp.py, dWs kw, dWs ws])) := fun H1 s Q q => by
  refine hx H1 s _ fun v H2 s2 r2 => hk H2 (s.trans s2) _ fun v' H2' s2' r2' => hy H2' ((s.trans s2).trans s2') _ fun u H3 s3 r3 => ⟨szL (by simp), fun l nl => ?_⟩
  have sl : Same H3 (upd H3 l (.lst [v, v', u])) := sameU nl
  have d1 := dq_tp (C := C) (S := S) (kTp.same ((s2'.trans s3).trans sl) r2)
  obtain ⟨W2, vs2, rfl, _, h2, p2⟩ := kWs_rows r3
  obtain ⟨W1, vs1, rfl, _, h1, p1⟩ := kWs_rows r2'
  have d2 : Dq K PT (upd H3 l (.lst [v, .ref W1, .ref W2])) (.ref W2) (dWs ws) := dq_dWs trivial (sl _ _ h2) (L2.Paired.mapP p2 fun _ _ z => z.same sl)
  have d3 : Dq K PT (upd H3 l (.lst [v, .ref W1, .ref W2])) (.ref W1) (dWs kw) := dq_dWs trivial ((s3.trans sl) _ _ h1) (L2.Paired.mapP p1 fun _ _ z => z.same (s3.trans sl))
  have sm := sm_list (n := 3) (b := 10000) (ds := [tp.py, dWs kw, dWs ws]) fun d hd => by
    simp only [List.mem_cons, List.not_mem_nil, or_false] at hd
    rcases hd with rfl | rfl | rfl
    · exact tpc_sm ok
    · exact ws_sm lk bk
    · exact ws_sm ly by_
  exact ⟨PT, _, _, rfl, .lst trivial upd_same (.cons d1 (.cons d3 (.cons d2 .nil))), sm.can, Nat.le_trans sm.dep (by decide), Nat.le_trans sm.len (szL (by simp)), q _ _ (s2.trans (s2'.trans (s3.trans sl))) rfl⟩
def StOk (ds : List Int) (rs : List (Int × List Int)) (st : List Int × List (List Int) × List (List Int)) : Prop := st.1.length ≤ 6 ∧ RowsOk ⟨ds, rs⟩ st.2.1 ∧ RowsOk ⟨ds, rs⟩ st.2.2
theorem evf_state {ds : List Int} {rs : List (Int × List Int)} {R : Addr} (e : σ[i]? = some (some (.ref f))) (e2 : σ[j]? = some (some (.ref R))) (hf : FeedAt H f) (hR : (kL (kR (K := K) (C := C))).rp [f] H (.ref R) rs) (ok : DsOk ds rs) : EvF f (k3 (kT (kI (K := K) (C := C))) kWs kWs) H (tCall (spState K C) [] C8.E0 (tCons (tVar i) (tCons (tVar j) tNil))) σ (StOk ds rs) := fun Q q => ⟨_, e, _, e2, f, R, ds, rs, rfl, hf, hR, ok, fun v H' as kw ws e' r h1 h2 h3 => q v H' (as, kw, ws) e' r ⟨h1, h2, h3⟩⟩
end
section
variable {P : Program} {w : World} {K : PySem.W.Frag} {mg : Str → Option Value} {base : Heap} {C : Addr}
structure Top11 (P : Program) (w : World) (K : PySem.W.Frag) (mg : Str → Option Value) (base : Heap) (C : Addr) : Prop where
  bi : Bi mg
  bk : BkC P w K mg base C
  feed : C8.Cal P w K mg base 1 "_law_feed" (spFeed K) []
  take : C8.Cal P w K mg base 1 "_law_take" spTake []
  pick : C8.Cal P w K mg base 2 "_law_pick" (spPick K) []
  book : C8.Cal P w K mg base 4 "_law_book" (spBook K) []
  sets : C8.Cal P w K mg base 1 "_law_sets" (sp__law_sets K C) []
  state : C8.Cal P w K mg base 4 "_law_state" (spState K C) []
  stp : C8.Cal P w K mg base 4 "step" (sp_step K C) []
  walked : C8.Cal P w K mg base 3 "_law_walked" (spLWalk K C) []
  nearc : C8.Cal P w K mg base 3 "_law_near_chain" (spNearC K C) []
  links : C8.Cal P w K mg base 2 "_law_links" (spLinksM K C) []
  chain : C8.Cal P w K mg base 5 "is_chain" (sp_is_chainM K C) []
  nears : C8.Cal P w K mg base 3 "_law_near_set" (spNearS K C) []
  shut : C8.Cal P w K mg base 2 "_law_shut" (spShutM K C) []
  clos : C8.Cal P w K mg base 4 "is_closed" (sp_is_closedM K C) []
theorem scLaw : FnScope ["script", "k", "feed", "demands", "readers", "book", "works", "every", "turn", "absent", "kept", "rows", "work", "word", "told", "value", "shown", "due", "lot", "text"] ["script"] (defScope sLaw) := ⟨rfl, rfl, rfl, by decide +kernel, rfl, by decide +kernel, by decide +kernel⟩
set_option maxHeartbeats 0 in
theorem ok_law {f : Addr} {fd : FuncData} (F : Fun K "law" "law" sLaw f fd) (TT : Top11 P w K mg base C) (hb0 : ∃ o, base.get? sysModules = some o) : FnOkG P w K mg base 6 f fd ["script"] (spLaw K) := by
  obtain ⟨B, T, c__law_feed, c__law_take, c__law_pick, c__law_book, c__law_sets, c__law_state, c_step, c__law_walked, c__law_near_chain, c_law_linksM, c_is_chainM, c__law_near_set, c_law_shutM, c_is_closedM⟩ := TT
  refine okG F scLaw (fun vs H Q E h => ?_) (fun cdv A outer s H vs Q E hgd hr h => ?_)
  · obtain ⟨a, ns, rfl, _⟩ := h
    rfl
  obtain ⟨a, ns, rfl, hS, hlen, q⟩ := h
  refine ⟨_, (pss_cons (ps_for PassesOwn.never rfl (pi_range1 rfl B.range (pa_cons (pe_callB (call_max2 rfl) (by rfl) B.max (by decide +kernel) (pa_cons pe_int (pa_cons (pe_callB (call_min2 rfl) (by rfl) B.min (by decide +kernel) (pa_cons pe_int (pa_cons (pe_callB call_len_seq (by rfl) B.len PySem.boot_len (pa_cons (pv 0) pa_nil)) pa_nil))) pa_nil))) pa_nil)) (pg_name (i := 1) scLaw.nd rfl (.inl rfl)) (pss_cons (ps_set (i := 2) scLaw.nd rfl (.inl rfl) (C8.pe_c c__law_feed hr (by decide) (by rfl) (pa_cons (pv 0) (pa_cons (pv 1) pa_nil))))
 (pss_cons (ps_asg (C8.pe_c c__law_book hr (by decide) (by rfl) (pa_cons (pv 2) (pa_cons pe_int (pa_cons pe_int pa_nil)))) (pg_unl (by rfl) (pgs_cons (pg_name (i := 3) scLaw.nd rfl (.inl rfl)) (pgs_cons (pg_name (i := 4) scLaw.nd rfl (.inl rfl)) pgs_nil))))
 (pss_cons (ps_par (i := 5) (j := 6) (by rfl) scLaw.nd rfl rfl (by decide) rfl rfl (pa_cons (C8.pe_mk T.mak hr (by decide) (by rfl) (pa_cons (pv 3) (pa_cons (pv 4) pa_nil))) (pa_cons (pe_callB call_len_seq (by rfl) B.len PySem.boot_len (pa_cons (pv 3) pa_nil)) pa_nil)) (by rfl))
 (pss_cons (ps_set (i := 7) scLaw.nd rfl (.inl rfl) (pe_lst (pa_cons (C8.pe_c c__law_state hr (by decide) (by rfl) (pa_cons (pv 2) (pa_cons (pv 4) pa_nil))) (pa_cons (C8.pe_c c__law_state hr (by decide) (by rfl) (pa_cons (pv 2) (pa_cons (pv 4) pa_nil))) pa_nil))))
 (pss_cons (ps_for PassesOwn.never rfl (pi_range1 rfl B.range (pa_cons pe_int pa_nil)) (pg_name (i := 8) scLaw.nd rfl (.inl rfl)) (pss_cons (ps_asg (C8.pe_c c__law_pick hr (by decide) (by rfl) (pa_cons (pv 2) (pa_cons (pv 7) pa_nil))) (pg_tup (by rfl) (pgs_cons (pg_name (i := 9) scLaw.nd rfl (.inl rfl)) (pgs_cons (pg_name (i := 10) scLaw.nd rfl (.inl rfl)) (pgs_cons (pg_name (i := 11) scLaw.nd rfl (.inl rfl)) pgs_nil)))))
 (pss_cons (ps_set (i := 12) scLaw.nd rfl (.inl rfl) (C8.pe_c c__law_take hr (by decide) (by rfl) (pa_cons (pv 2) (pa_cons (pv 6) pa_nil))))
 (pss_cons (ps_asg (C8.pe_c c_step hr (by decide) (by rfl) (pa_cons (pv 5) (pa_cons (pv 10) (pa_cons (pv 11) (pa_cons (pv 9) (pa_cons (pv 12) pa_nil)))))) (pg_tup (by rfl) (pgs_cons (pg_name (i := 13) scLaw.nd rfl (.inl rfl)) (pgs_cons (pg_name (i := 14) scLaw.nd rfl (.inl rfl)) pgs_nil))))
 (pss_cons (ps_set (i := 15) scLaw.nd rfl (.inl rfl) (C8.pe_c c__law_walked hr (by decide) (by rfl) (pa_cons (pv 2) (pa_cons (pv 4) (pa_cons (pv 10) (pa_cons (pv 11) (pa_cons (pv 9) (pa_cons (pv 12) pa_nil))))))))
 (pss_cons (ps_if (PW.pt (pw_and (pt_cmpR op_eq (pv 13) pe_str (nomark _)) (pw_and1 (pt_cmpR op_eq (C8.pe_c c__law_take hr (by decide) (by rfl) (pa_cons (pv 2) (pa_cons pe_int pa_nil))) pe_int (nomark _))))) (pss_one (ps_set (i := 15) scLaw.nd rfl (.inl rfl) (pv 14))) pss_nil)
 (pss_cons (ps_if (pt_cmpR op_gt (C8.pe_c c__law_take hr (by decide) (by rfl) (pa_cons (pv 2) (pa_cons pe_int pa_nil))) pe_int (nomark _)) (pss_one (ps_set (i := 15) scLaw.nd rfl (.inl rfl) (C8.pe_c c__law_near_chain hr (by decide) (by rfl) (pa_cons (pv 2) (pa_cons (pv 4) (pa_cons (pv 15) (pa_cons (pv 6) pa_nil))))))) pss_nil)
 (pss_cons (ps_par (i := 16) (j := 17) (by rfl) scLaw.nd rfl rfl (by decide) rfl rfl (pa_cons (pe_callB (call_reprQ hb0 hgd hr.units) (by rfl) B.repr (by decide +kernel) (pa_cons (pe_lst (pa_cons (pv 15) (pa_cons (pv 10) (pa_cons (pv 11) pa_nil)))) pa_nil)) (pa_cons (C8.pe_c c_law_linksM hr (by decide) (by rfl) (pa_cons (pv 4) (pa_cons (pv 10) (pa_cons (pv 11) (pa_cons (pv 9) (pa_cons (pv 12) (pa_cons (pv 15) pa_nil))))))) pa_nil)) (by rfl))
 (pss_cons (ps_if (pt_cmpR op_ne (pe_callB (call_reprQ hb0 hgd hr.units) (by rfl) B.repr (by decide +kernel) (pa_cons (C8.pe_c c_is_chainM hr (by decide) (by rfl) (pa_cons (pv 5) (pa_cons (pv 10) (pa_cons (pv 11) (pa_cons (pv 9) (pa_cons (pv 12) (pa_cons (pv 15) pa_nil))))))) pa_nil)) (pe_callB (call_reprQ hb0 hgd hr.units) (by rfl) B.repr (by decide +kernel) (pa_cons (pv 17) pa_nil)) (nomark _)) (pss_one (ps_ret pe_bl)) pss_nil)
 (pss_cons (ps_set (i := 18) scLaw.nd rfl (.inl rfl) (C8.pe_c c__law_pick hr (by decide) (by rfl) (pa_cons (pv 2) (pa_cons (pe_slice sl_list (C8.pe_c c__law_sets hr (by decide) (by rfl) (pa_cons (pe_listRg rfl (by rfl) B.list (prg_1 (by rfl) B.range (pv 6))) pa_nil)) (po_some pe_int) po_none) pa_nil))))
 (pss_cons (ps_if (pt_cmpR op_eq (pv 13) pe_str (nomark _)) (pss_one (ps_set (i := 18) scLaw.nd rfl (.inl rfl) (pv 14))) pss_nil)
 (pss_cons (ps_if (pt_cmpR op_gt (C8.pe_c c__law_take hr (by decide) (by rfl) (pa_cons (pv 2) (pa_cons pe_int pa_nil))) pe_int (nomark _)) (pss_one (ps_set (i := 18) scLaw.nd rfl (.inl rfl) (C8.pe_c c__law_near_set hr (by decide) (by rfl) (pa_cons (pv 2) (pa_cons (pv 6) (pa_cons (pv 18) pa_nil)))))) pss_nil)
 (pss_cons (ps_set (i := 17) scLaw.nd rfl (.inl rfl) (C8.pe_c c_law_shutM hr (by decide) (by rfl) (pa_cons (pv 4) (pa_cons (pv 10) (pa_cons (pv 11) (pa_cons (pv 9) (pa_cons (pv 18) (pa_cons (pv 6) pa_nil))))))))
 (pss_cons (ps_set (i := 19) scLaw.nd rfl (.inl rfl) (pe_callB (call_reprQ hb0 hgd hr.units) (by rfl) B.repr (by decide +kernel) (pa_cons (pv 18) pa_nil)))
 (pss_cons (ps_if (PW.pt (pw_or (pt_cmpR op_ne (pe_callB (call_reprQ hb0 hgd hr.units) (by rfl) B.repr (by decide +kernel) (pa_cons (C8.pe_c c_is_closedM hr (by decide) (by rfl) (pa_cons (pv 5) (pa_cons (pv 10) (pa_cons (pv 11) (pa_cons (pv 9) (pa_cons (pv 18) pa_nil)))))) pa_nil)) (pe_callB (call_reprQ hb0 hgd hr.units) (by rfl) B.repr (by decide +kernel) (pa_cons (pv 17) pa_nil)) (nomark _)) (pw_or1 (pt_cmpR op_ne (pe_callB (call_reprQ hb0 hgd hr.units) (by rfl) B.repr (by decide +kernel) (pa_cons (pv 18) pa_nil)) (pv 19) (nomark _))))) (pss_one (ps_ret pe_bl)) pss_nil)
 (pss_one (ps_if (pt_cmpR op_ne (pe_callB (call_reprQ hb0 hgd hr.units) (by rfl) B.repr (by decide +kernel) (pa_cons (pe_lst (pa_cons (pv 15) (pa_cons (pv 10) (pa_cons (pv 11) pa_nil)))) pa_nil)) (pv 16) (nomark _)) (pss_one (ps_ret pe_bl)) pss_nil)))))))))))))))))
 (pss_one (ps_if (pt_not (pt_cmpR (op_eqBk T hr (by decide)) (pv 5) (C8.pe_mk T.mak hr (by decide) (by rfl) (pa_cons (pv 3) (pa_cons (pv 4) pa_nil))) (nomark _))) (pss_one (ps_ret pe_bl)) pss_nil))))))))
 (pss_one (ps_ret pe_bl))), ?_⟩
  try dsimp only [cxOf, Cx.nox, Cx.wish]
  refine s_for (kx := (kI : Kd K C _)) (S := []) (evi_rng (ev_mm ev_int (ev_mm ev_int (ev_lenS rfl hS))) (by split <;> (try split) <;> omega) (by split <;> (try split) <;> omega)) fun H0 s0 => ⟨fun i σ H' => ∃ y1 y2 y3 y4 y5 y6 y7 y8 y9 y10 y11 y12 y13 y14 y15 y16 y17 y18 y19 : Option V, σ = [some (.ref a), y1, y2, y3, y4, y5, y6, y7, y8, y9, y10, y11, y12, y13, y14, y15, y16, y17, y18, y19] ∧ Same H0 H', ⟨none, none, none, none, none, none, none, none, none, none, none, none, none, none, none, none, none, none, none, rfl, Same.refl _⟩, fun i σ' H' ⟨_, _, _, _, _, _, _, _, _, _, _, _, _, _, _, _, _, _, _, _, h⟩ => Lf.same h, ?_, fun σ H' _ => q H'⟩
  rintro i xk σ H1' v0 H1 hx ⟨y1, y2, y3, y4, y5, y6, y7, y8, y9, y10, y11, y12, y13, y14, y15, y16, y17, y18, y19, rfl, s1'⟩ s1'' hv0
  obtain ⟨rfl, hi⟩ := iota_at hx
  cases (show v0 = .int (i : Int) from hv0)
  have hi3 : i < 3 := by
    refine Nat.lt_of_lt_of_le hi ?_
    split <;> (try split) <;> omega
  have s1 : Same H0 H1 := s1'.trans s1''
  refine q_feed (i := 0) (j := 1) (kk := (i : Int)) rfl rfl (s1.seq (s0.seq hS)) hlen (by omega) (by omega) fun f H2 s2 nf hf => ?_
  try dsimp only [List.set]
  have nf0 : H0 f = none := s1.free nf
  refine q_book (C := C) (i := 2) (by rfl) rfl hf (by decide) (by decide) (by decide) (by decide) fun A R H3 ds rs e3 hA hR ok ld lr => ?_
  try dsimp only [List.set]
  have r6 := ok.r6
  have n6 := ok.n6
  have n1 := ok.n1
  have hf3 := e3.feed
  have fr3 : Fr C [f] H3 := fr_feed hf3
  refine q_parR (S := [f]) (evn_mkBk (ev_var (i := 3) rfl hA Lf.refl) (ev_var (i := 4) rfl hR Lf.refl) fr3 ok) fun x H4 nx s4 hB => ?_
  refine (ev_lenL (K := K) (C := C) (k := kI) (S := [f]) (ev_var (i := 3) rfl hA (Lf.same s4))).use fun v6 H5 s5 r5 => ⟨_, _, rfl, ?_⟩
  cases (show v6 = .int (ds.length : Nat) from r5)
  try dsimp only [List.set]
  have s45 := s4.trans s5
  have e5 : Ext1 f H3 H5 := Ext1.same hf3 s45
  have hR5 := (kL (kR (K := K) (C := C))).same s45 hR
  -- every
  refine q_setF (f := f) (i := 7) (evf_lst (k := k3 (kT (kI (K := K) (C := C))) kWs kWs) (evfs_cons (evf_state (i := 2) (j := 4) rfl rfl e5.feed hR5 ok) fun H6 e6 => evfs_cons (evf_state (i := 2) (j := 4) rfl rfl e6.feed ((lf_ext (fr_feed e5.feed) (by simp) e6).go _ _ _ hR5) ok) fun H7 e7 => evfs_nil e7.feed) fun xs hx => by
    obtain ⟨x, r, rfl, _, y, r2, rfl, _, rfl⟩ := hx
    simp) fun ve H7 ev e57 hev hevs => ?_
  try dsimp only [List.set]
  have hne : ev ≠ [] ∧ ev.length ≤ 2 ∧ ∀ st ∈ ev, StOk ds rs st := by
    obtain ⟨x, r, rfl, hx, y, r2, rfl, hy, rfl⟩ := hevs
    refine ⟨by simp, by simp, fun st hst => ?_⟩
    rcases List.mem_cons.mp hst with rfl | hst
    · exact hx
    · rw [List.mem_singleton.mp hst]; exact hy
  have e37 := e5.trans e57
  have hA7 := (lf_ext fr3 (by simp) e37).go _ _ _ hA
  have hR7 := (lf_ext fr3 (by simp) e37).go _ _ _ hR
  have hB7 := (lf_ext (fr_feed (C := C) e5.feed) (by simp) e57).go (kBk : Kd K C _) _ _ (kBk.same s5 hB)
  have hev7 := hev
  clear hev hevs hA hR hB hR5 r5
  refine s_for (kx := (kI : Kd K C _)) (S := [f]) (evi_rng ev_int (by decide) (by decide)) fun H8 s8 => ⟨fun j σ H' => ∃ y8 y9 y10 y11 y12 y13 y14 y15 y16 y17 y18 y19 : Option V, σ = [some (.ref a), some (.int (i : Int)), some (.ref f), some (.ref A), some (.ref R), some (.ref x), some (.int (ds.length : Nat)), some ve, y8, y9, y10, y11, y12, y13, y14, y15, y16, y17, y18, y19] ∧ Ext1 f H8 H', ⟨_, _, _, _, _, _, _, _, _, _, _, _, rfl, Ext1.refl (Ext1.same e37.feed s8).feed⟩, fun i σ' H' ⟨_, _, _, _, _, _, _, _, _, _, _, _, _, h⟩ => lf_ext (fr_feed (Ext1.same e37.feed s8).feed) (by simp) h, ?_, ?_⟩
  · rintro j xj σ H9' vj H9 hxj ⟨y8, y9, y10, y11, y12, y13, y14, y15, y16, y17, y18, y19, rfl, eI⟩ sX hvj
    have e79 : Ext1 f H7 H9 := ((Ext1.same e37.feed s8).trans eI).trans (Ext1.same eI.feed sX)
    have frE : ∀ {Hz : Hp}, Ext1 f H7 Hz → Fr C [f] Hz := fun e => fr_feed e.feed
    have lf : ∀ {Hz : Hp}, Ext1 f H7 Hz → Lf K C [f] H7 [f] Hz := fun e => lf_ext (fr_feed e37.feed) (by simp) e
    try dsimp only [List.set]
    -- absent, kept, rows
    refine evf_pick (K := K) (C := C) (k := k3 (kT kI) kWs kWs) (i := 2) (l := ev) rfl e79.feed (ev_var (i := 7) rfl hev7 (lf e79)) hne.1 (by have := hne.2.1; omega) _ fun vst Ha st ea rst hst => ?_
    obtain ⟨as, kw, ws⟩ := st
    obtain ⟨al, rokk, rokr⟩ := hne.2.2 _ hst
    have al : as.length ≤ 6 := al
    have rokk : RowsOk ⟨ds, rs⟩ kw := rokk
    have rokr : RowsOk ⟨ds, rs⟩ ws := rokr
    obtain ⟨tst, v9, v10, v11, rfl, hTst, h9, h10, h11⟩ := rst
    have h9 : (kT (kI (K := K) (C := C))).rp [f] Ha v9 as := h9
    have h10 : (kWs (K := K) (C := C)).rp [f] Ha v10 kw := h10
    have h11 : (kWs (K := K) (C := C)).rp [f] Ha v11 ws := h11
    refine ⟨tst, _, rfl, hTst, rfl, v9, _, rfl, v10, _, rfl, v11, _, rfl, rfl, ?_⟩
    try dsimp only [List.set]
    have e7a := e79.trans ea
    have lfa : ∀ {Hz : Hp}, Ext1 f Ha Hz → Lf K C [f] Ha [f] Hz := fun e => lf_ext (frE e7a) (by simp) e
    have lkw : kw.length = rs.length := rokk.1
    have lws : ws.length = rs.length := rokr.1
    have rin := rokr.rowsIn (b := ⟨ds, rs⟩) ok
    -- work
    refine q_setF (f := f) (i := 12) (evf_take (K := K) (C := C) (i := 2) rfl e7a.feed (ev_var (i := 6) (k := kI) (S' := [f]) (H0 := Ha) (x := ((ds.length : Nat) : Int)) rfl rfl Lf.refl) (by omega) (by omega)) fun v12 Hb z eb r12 hz => ?_
    cases (show v12 = .int z from r12)
    try dsimp only [List.set]
    have zE : ∀ {H5 : Hp} {σ : L2.St}, σ[12]? = some (some (.int z)) → Ev (K := K) (C := C) kI [f] H5 (tVar 12) σ z := fun e => ev_var e (show (kI (K := K) (C := C)).rp [f] _ (.int z) z from rfl) Lf.refl
    have e7b := e7a.trans eb
    -- step
    refine (ev_step (K := K) (C := C) (b := ⟨ds, rs⟩) (kw := kw) (ws := ws) (as := as) (z := z) (S := [f]) (eva_cons (ev_var (i := 5) rfl hB7 (lf e7b)) (eva_cons (ev_var (i := 10) rfl h10 (lfa eb)) (eva_cons (ev_var (i := 11) rfl h11 (lfa eb)) (eva_cons (ev_var (i := 9) rfl h9 (lfa eb)) (eva_cons (zE rfl) eva_nil))))) (frE e7b) ⟨rin, by omega, hz.1, hz.2⟩).use fun vS Hc sc rS => ?_
    have hlk := step_lk (b := ⟨ds, rs⟩) (kw := kw) (as := as) ok rokr hz
    have hW : ∃ t wd tv, vS = .ref t ∧ SqT K Hc t [.str wd, tv] ∧ ((wd = "chain" ∧ ∃ ls, (kLinks (K := K) (C := C)).rp [f] Hc tv ls ∧ ls.length ≤ 6 ∧ ∀ l ∈ ls, LkOk l) ∨ (wd = "closed" ∧ ∃ l, (kT (kI (K := K) (C := C))).rp [f] Hc tv l ∧ l.length ≤ 6 ∧ ∀ x ∈ l, 0 ≤ x ∧ x ≤ 6)) := by
      cases hs : stepB ⟨ds, rs⟩ kw ws as z with
      | inl ch =>
        rw [hs] at rS hlk
        obtain ⟨t, tv, rfl, hT, r⟩ := rS
        exact ⟨t, "chain", tv, rfl, hT, .inl ⟨rfl, ch, r, hlk.1, hlk.2⟩⟩
      | inr l =>
        rw [hs] at rS hlk
        obtain ⟨t, tv, rfl, hT, r⟩ := rS
        exact ⟨t, "closed", tv, rfl, hT, .inr ⟨rfl, l, r, hlk.1, hlk.2⟩⟩
    obtain ⟨tS, wd, tv, rfl, hTS, hW⟩ := hW
    clear rS hlk
    refine ⟨tS, _, rfl, hTS, rfl, _, _, rfl, _, _, rfl, rfl, ?_⟩
    try dsimp only [List.set]
    have eac : Ext1 f Ha Hc := eb.trans (Ext1.same eb.feed sc)
    have e7c := e7a.trans eac
    have wE : ∀ {H5 : Hp} {σ : L2.St}, σ[13]? = some (some (.str wd)) → Ev (K := K) (C := C) kS [f] H5 (tVar 13) σ wd := fun e => ev_var e (show (kS (K := K) (C := C)).rp [f] _ (.str wd) wd from rfl) Lf.refl
    have sE : ∀ {H5 : Hp} {σ : L2.St} {s : Str}, Ev (K := K) (C := C) kS [f] H5 (tC (.str s)) σ s := fun H1 _ Q q => q _ H1 (Same.refl _) rfl
    -- walked
    refine ⟨_, rfl, _, rfl, _, rfl, _, rfl, _, rfl, _, rfl, f, _, _, _, _, z, ds, rs, kw, ws, as, rfl, e7c.feed, (lf e7c).go _ _ _ hR7, (lfa eac).go _ _ _ h10, (lfa eac).go _ _ _ h11, (lfa eac).go _ _ _ h9, ok, rokk, rokr, ⟨hz.1, by omega⟩, fun Hd p15 ls15 ed h15 hl15 hk15 => ?_⟩
    try dsimp only [List.set]
    have ead := eac.trans ed
    have e7d := e7a.trans ead
    have hWd : ∀ {Hz : Hp}, Ext1 f Hc Hz → ((wd = "chain" ∧ ∃ ls, (kLinks (K := K) (C := C)).rp [f] Hz tv ls ∧ ls.length ≤ 6 ∧ ∀ l ∈ ls, LkOk l) ∨ (wd = "closed" ∧ ∃ l, (kT (kI (K := K) (C := C))).rp [f] Hz tv l ∧ l.length ≤ 6 ∧ ∀ x ∈ l, 0 ≤ x ∧ x ≤ 6)) := fun e => by
      have l := lf_ext (K := K) (frE e7c) (by simp) e
      rcases hW with ⟨h, ls, r, h2⟩ | ⟨h, ls, r, h2⟩
      · exact .inl ⟨h, ls, l.go _ _ _ r, h2⟩
      · exact .inr ⟨h, ls, l.go _ _ _ r, h2⟩
    refine q_seqQ (fun σ' H' => ∃ v15 ls, σ' = [some (.ref a), some (.int (i : Int)), some (.ref f), some (.ref A), some (.ref R), some (.ref x), some (.int (ds.length : Nat)), some ve, some vj, some v9, some v10, some v11, some (.int z), some (.str wd), some tv, some v15, y16, y17, y18, y19] ∧ Ext1 f Hd H' ∧ (kLinks (K := K) (C := C)).rp [f] H' v15 ls ∧ ls.length ≤ 8 ∧ ∀ l ∈ ls, LkOk l) ?_ fun nx hn => ?_
    rotate_left
    · refine s_ifAndF (K := K) (C := C) (f := f) e7d.feed (evt_test (ev_eqS (wE rfl) sE)) (fun _ H2 s2 => evf_take (K := K) (C := C) (i := 2) rfl (Ext1.same e7d.feed s2).feed ev_int (by decide) (by decide)) (fun hb He ee => ?_) fun He ee => hn _ _ ⟨_, ls15, rfl, ee, (lf_ext (frE e7d) (by simp) ee).go _ _ _ h15, by omega, hk15⟩
      rcases hWd (ed.trans ee) with ⟨_, ls, r, h2, h3⟩ | ⟨h, _⟩
      · exact ⟨_, rfl, hn _ _ ⟨tv, ls, rfl, ee, r, by omega, h3⟩⟩
      · rw [h] at hb
        exact absurd (of_decide_eq_true hb) (by decide)
    rintro σ' He ⟨v15, ls, rfl, ee, h15e, l8, lok⟩
    clear h15
    have e7e := e7d.trans ee
    refine q_seqQ (fun σ' H' => ∃ v15 tp, σ' = [some (.ref a), some (.int (i : Int)), some (.ref f), some (.ref A), some (.ref R), some (.ref x), some (.int (ds.length : Nat)), some ve, some vj, some v9, some v10, some v11, some (.int z), some (.str wd), some tv, some v15, y16, y17, y18, y19] ∧ Ext1 f Hd H' ∧ (kTp (K := K) (C := C)).rp [f] H' v15 tp ∧ TpC tp) ?_ fun nx hn => ?_
    rotate_left
    · refine s_ifGtF (K := K) (C := C) (f := f) (evf_take (K := K) (C := C) (i := 2) rfl e7e.feed ev_int (by decide) (by decide)) (fun Hf ef => ?_) fun Hf ef => hn _ _ ⟨_, .lst (ls.map lkM), rfl, ee.trans ef, lkL_rp ((lf_ext (frE e7e) (by simp) ef).go _ _ _ h15e), ⟨by rw [List.length_map]; omega, fun m hm => by
        obtain ⟨l, hl, rfl⟩ := List.mem_map.mp hm
        exact lkM_ok (lok l hl)⟩⟩
      refine ⟨_, rfl, _, rfl, _, rfl, _, rfl, f, _, _, _, ls, rfl, (e7e.trans ef).feed, (lf_ext (frE e7e) (by simp) ef).go _ _ _ h15e, l8, lok, fun u H' tp e' r okt => hn _ _ ⟨u, tp, rfl, (ee.trans ef).trans e', r, okt⟩⟩
    rintro σ' Hf ⟨v15f, tp, rfl, ef, h15f, okt⟩
    have eaf := ead.trans ef
    have e7f := e7a.trans eaf
    have ly : ws.length ≤ 6 := by omega
    have lk6 : kw.length ≤ 6 := by omega
    -- shown, due
    refine q_par (S := [f]) (i := 16) (j := 17) (k := (kS : Kd K C _)) (k1 := (kB : Kd K C _)) (ev_reprC3 okt (ev_var (i := 15) rfl h15f Lf.refl) (ev_var (i := 10) rfl h10 (lfa eaf)) (ev_var (i := 11) rfl h11 (lfa eaf)) lk6 (rokk.len6 ok) ly (rokr.len6 ok))
      (ev_call (ks := (aC (kL kR) (aC kWs (aC kWs (aC (kT kI) (aC kI (aC kTp aN))))) : Ka K C _)) (kr := kB) (a := (rs, kw, ws, as, z, tp, ())) (eva_cons (ev_var (i := 4) rfl hR7 (lf e7f)) (eva_cons (ev_var (i := 10) rfl h10 (lfa eaf)) (eva_cons (ev_var (i := 11) rfl h11 (lfa eaf)) (eva_cons (ev_var (i := 9) rfl h9 (lfa eaf)) (eva_cons (zE rfl) (eva_cons (ev_var (i := 15) rfl h15f Lf.refl) eva_nil)))))) (frE e7f) (show ws.length = rs.length ∧ kw.length = ws.length from ⟨lws, by omega⟩)) fun v16 v17 Hg sg h16 h17 => ?_
    try dsimp only [List.set]
    have eag := eaf.trans (Ext1.same eaf.feed sg)
    have e7g := e7a.trans eag
    have h15g := (kTp (K := K) (C := C)).same sg h15f
    have h17 : v17 = .bl (linksT rs kw ws as z tp) := h17
    have ceq : chainT ⟨ds, rs⟩ kw ws as z tp = linksT rs kw ws as z tp := chainT_links (b := ⟨ds, rs⟩) ok rokr hz.1 tp
    refine q_if (evt_test (ev_neS (ev_reprBq (ev_call (ks := (aC kBk (aC kWs (aC kWs (aC (kT kI) (aC kI (aC kTp aN))))) : Ka K C _)) (kr := kB) (a := (⟨ds, rs⟩, kw, ws, as, z, tp, ())) (eva_cons (ev_var (i := 5) rfl hB7 (lf e7g)) (eva_cons (ev_var (i := 10) rfl h10 (lfa eag)) (eva_cons (ev_var (i := 11) rfl h11 (lfa eag)) (eva_cons (ev_var (i := 9) rfl h9 (lfa eag)) (eva_cons (zE rfl) (eva_cons (ev_var (i := 15) rfl h15g Lf.refl) eva_nil)))))) (frE e7g) (show RowsIn ⟨ds, rs⟩ ws ∧ kw.length = ws.length from ⟨rin, by omega⟩))) (ev_reprBq (ev_var (i := 17) (k := kB) (S' := [f]) (H0 := Hg) (x := linksT rs kw ws as z tp) rfl h17 Lf.refl)))) (fun Hh hb _ => ?_) fun Hh _ sh => ?_
    · exfalso
      have hb : (!decide (PyData.shown (.bool (chainT ⟨ds, rs⟩ kw ws as z tp)) = PyData.shown (.bool (linksT rs kw ws as z tp)))) = true := hb
      rw [ceq] at hb
      simp at hb
    have eah := eag.trans (Ext1.same eag.feed sh)
    have e7h := e7a.trans eah
    have h15h := (kTp (K := K) (C := C)).same sh h15g
    have h16h := (kS (K := K) (C := C)).same (sh) h16
    -- lot
    have lq : (lsets (iota (ds.length : Nat))).length ≤ 64 := Nat.le_trans (lsets_pow (n := ds.length) (iota_up _) fun x hx => by have := iota_mem.mp hx; omega) (Nat.pow_le_pow_right (by decide) n6)
    refine q_setF (f := f) (i := 18) (evf_pick (K := K) (C := C) (k := kT kI) (i := 2) (l := (lsets (iota (ds.length : Nat))).drop (1 : Int).toNat) rfl e7h.feed (EvN.ev (evn_dropE (k := kT kI) (EvN.ev (evn_call (ks := (aC (kL kI) aN : Ka K C _)) (kr := kL (kT kI)) (a := (iota (ds.length : Nat), ())) (eva_cons (EvN.ev (evn_lrg (ev_var (i := 6) (k := kI) (S' := [f]) (H0 := Hh) (x := ((ds.length : Nat) : Int)) rfl rfl Lf.refl) (frE e7h) (by omega))) eva_nil) (frE e7h) (show (iota (ds.length : Nat)).length ≤ 6 by rw [iota_len]; omega))) ev_int (by decide) (frE e7h))) (lsets_two n1) (by rw [List.length_drop]; omega)) fun v18 Hi l0 ei h18 hl0 => ?_
    try dsimp only [List.set]
    have l0ok : l0.length ≤ 6 ∧ ∀ x ∈ l0, 0 ≤ x ∧ x ≤ 6 := by
      obtain ⟨a1, a2⟩ := lsets_mem.mp (List.mem_of_mem_drop hl0)
      refine ⟨?_, fun x hx => by have := iota_mem.mp (a2 x hx); omega⟩
      have := sub_len (nodup_asc a1) a2
      rw [iota_len] at this
      omega
    have e7i := e7h.trans ei
    refine q_seqQ (fun σ' H' => ∃ v18 l, σ' = [some (.ref a), some (.int (i : Int)), some (.ref f), some (.ref A), some (.ref R), some (.ref x), some (.int (ds.length : Nat)), some ve, some vj, some v9, some v10, some v11, some (.int z), some (.str wd), some tv, some v15f, some v16, some v17, some v18, y19] ∧ Ext1 f Hi H' ∧ (kT (kI (K := K) (C := C))).rp [f] H' v18 l ∧ l.length ≤ 6 ∧ ∀ x ∈ l, 0 ≤ x ∧ x ≤ 6) ?_ fun nx hn => ?_
    rotate_left
    · refine s_if (evt_test (ev_eqS (wE rfl) sE)) (fun Hj hb sj => ?_) fun Hj hb sj => hn _ _ ⟨_, l0, rfl, Ext1.same e7i.feed sj, (kT kI).same sj h18, l0ok.1, l0ok.2⟩
      have ecj : Ext1 f Hc Hj := (((ed.trans ef).trans (Ext1.same ef.feed (sg.trans sh))).trans ei).trans (Ext1.same ei.feed sj)
      rcases hWd ecj with ⟨h, _⟩ | ⟨_, l, r, h2, h3⟩
      · rw [h] at hb
        exact absurd (of_decide_eq_true hb) (by decide)
      · exact ⟨_, rfl, hn _ _ ⟨tv, l, rfl, Ext1.same e7i.feed sj, r, h2, h3⟩⟩
    rintro σ' Hj ⟨v18j, l1, rfl, ej, h18j, l16, l1d⟩
    clear h18
    have e7j := e7i.trans ej
    refine q_seqQ (fun σ' H' => ∃ v18 m, σ' = [some (.ref a), some (.int (i : Int)), some (.ref f), some (.ref A), some (.ref R), some (.ref x), some (.int (ds.length : Nat)), some ve, some vj, some v9, some v10, some v11, some (.int z), some (.str wd), some tv, some v15f, some v16, some v17, some v18, y19] ∧ Ext1 f Hi H' ∧ (kMd (K := K) (C := C)).rp [f] H' v18 m ∧ MdOk m) ?_ fun nx hn => ?_
    rotate_left
    · refine s_ifGtF (K := K) (C := C) (f := f) (evf_take (K := K) (C := C) (i := 2) rfl e7j.feed ev_int (by decide) (by decide)) (fun Hk ek => ?_) fun Hk ek => hn _ _ ⟨_, .tup (l1.map At.int), rfl, ej.trans ek, kT_at ((lf_ext (frE e7j) (by simp) ek).go (kT kI) _ _ h18j), ⟨by rw [List.length_map]; omega, fun x hx => by
        obtain ⟨y, hy, rfl⟩ := List.mem_map.mp hx
        exact (dig_mem (l1d y hy)).2⟩⟩
      refine ⟨_, rfl, _, rfl, _, rfl, f, _, l1, ((ds.length : Nat) : Int), rfl, (e7j.trans ek).feed, (lf_ext (frE e7j) (by simp) ek).go (kT kI) _ _ h18j, ⟨l16, l1d⟩, ⟨by omega, by omega⟩, fun u H' m e' r okm => hn _ _ ⟨u, m, rfl, (ej.trans ek).trans e', r, okm⟩⟩
    rintro σ' Hk ⟨v18k, m, rfl, ek, h18k, okm⟩
    have eak := (eah.trans ei).trans ek
    have e7k := e7a.trans eak
    have mlen : m.len < 64 := by
      cases m with
      | «at» a => exact (by decide : 0 < 64)
      | tup l => exact Nat.lt_of_le_of_lt okm.1 (by decide)
      | lst l => exact Nat.lt_of_le_of_lt okm.1 (by decide)
    have h15k := (lf_ext (K := K) (C := C) (frE e7h) (by simp) (ei.trans ek)).go (kTp : Kd K C _) _ _ h15h
    have h16k : (kS (K := K) (C := C)).rp [f] Hk v16 (PyData.shown (.list [tp.py, dWs kw, dWs ws])) := h16h
    refine q_set (i := 17) (S := [f]) (k := (kB : Kd K C _)) (ev_call (ks := (aC (kL kR) (aC kWs (aC kWs (aC (kT kI) (aC kMd (aC kI aN))))) : Ka K C _)) (kr := kB) (a := (rs, kw, ws, as, m, ((ds.length : Nat) : Int), ())) (eva_cons (ev_var (i := 4) rfl hR7 (lf e7k)) (eva_cons (ev_var (i := 10) rfl h10 (lfa eak)) (eva_cons (ev_var (i := 11) rfl h11 (lfa eak)) (eva_cons (ev_var (i := 9) rfl h9 (lfa eak)) (eva_cons (ev_var (i := 18) rfl h18k Lf.refl) (eva_cons (ev_var (i := 6) (k := kI) (S' := [f]) (H0 := Hk) (x := ((ds.length : Nat) : Int)) rfl rfl Lf.refl) eva_nil)))))) (frE e7k) (show (ws.length = rs.length ∧ kw.length = ws.length) ∧ m.len < 64 from ⟨⟨lws, by omega⟩, mlen⟩)) fun v17' Hl sl h17' => ?_
    try dsimp only [List.set]
    have h17' : v17' = .bl (shutM rs kw ws as m (ds.length : Nat)) := h17'
    have h18l := (kMd (K := K) (C := C)).same sl h18k
    refine q_set (i := 19) (S := [f]) (k := (kS : Kd K C _)) (ev_reprMd okm (ev_var (i := 18) rfl h18l Lf.refl)) fun v19 Hm sm h19 => ?_
    try dsimp only [List.set]
    have slm := sl.trans sm
    have eam := eak.trans (Ext1.same eak.feed slm)
    have e7m := e7a.trans eam
    have h18m := (kMd (K := K) (C := C)).same sm h18l
    have meq : closM ⟨ds, rs⟩ kw ws as m = shutM rs kw ws as m (ds.length : Nat) := clos_shut (b := ⟨ds, rs⟩) m
    refine q_if (evt_or (evt_test (ev_neS (ev_reprBq (ev_call (ks := (aC kBk (aC kWs (aC kWs (aC (kT kI) (aC kMd aN)))) : Ka K C _)) (kr := kB) (a := (⟨ds, rs⟩, kw, ws, as, m, ())) (eva_cons (ev_var (i := 5) rfl hB7 (lf e7m)) (eva_cons (ev_var (i := 10) rfl h10 (lfa eam)) (eva_cons (ev_var (i := 11) rfl h11 (lfa eam)) (eva_cons (ev_var (i := 9) rfl h9 (lfa eam)) (eva_cons (ev_var (i := 18) rfl h18m Lf.refl) eva_nil))))) (frE e7m) (show RowsIn ⟨ds, rs⟩ ws ∧ kw.length = ws.length from ⟨rin, by omega⟩))) (ev_reprBq (ev_var (i := 17) (k := kB) (S' := [f]) (H0 := Hm) (x := shutM rs kw ws as m (ds.length : Nat)) rfl h17' Lf.refl)))) fun _ => evt_test (ev_neS (ev_reprMd okm (ev_var (i := 18) rfl h18m Lf.refl)) (ev_var (i := 19) rfl h19 Lf.refl))) (fun Hn hb _ => ?_) fun Hn _ sn => ?_
    · exfalso
      have hb : (!decide (PyData.shown (.bool (closM ⟨ds, rs⟩ kw ws as m)) = PyData.shown (.bool (shutM rs kw ws as m (ds.length : Nat)))) || !decide (m.py.shown = m.py.shown)) = true := hb
      rw [meq] at hb
      simp at hb
    have ean := eam.trans (Ext1.same eam.feed sn)
    have e7n := e7a.trans ean
    have h15n := (kTp (K := K) (C := C)).same (slm.trans sn) h15k
    have h16n : (kS (K := K) (C := C)).rp [f] Hn v16 (PyData.shown (.list [tp.py, dWs kw, dWs ws])) := h16k
    refine s_if (evt_test (ev_neS (ev_reprC3 okt (ev_var (i := 15) rfl h15n Lf.refl) (ev_var (i := 10) rfl h10 (lfa ean)) (ev_var (i := 11) rfl h11 (lfa ean)) lk6 (rokk.len6 ok) ly (rokr.len6 ok)) (ev_var (i := 16) rfl h16n Lf.refl))) (fun Ho hb _ => ?_) fun Ho _ so => ?_
    · exfalso
      simp at hb
    · exact ⟨_, _, _, _, _, _, _, _, _, _, _, _, rfl, (eI.trans (Ext1.same eI.feed sX)).trans ((ea.trans ean).trans (Ext1.same ean.feed so))⟩
  · rintro σ' H' ⟨y8, y9, y10, y11, y12, y13, y14, y15, y16, y17, y18, y19, rfl, eI⟩
    have e7E : Ext1 f H7 H' := (Ext1.same e37.feed s8).trans eI
    have lE : Lf K C [f] H7 [f] H' := lf_ext (fr_feed e37.feed) (by simp) e7E
    have frE : Fr C [f] H' := fr_feed e7E.feed
    refine s_if (evt_not (evt_test (ev_eqBk (ev_var (i := 5) rfl hB7 lE) (EvN.ev (evn_mkBk (ev_var (i := 3) rfl hA7 lE) (ev_var (i := 4) rfl hR7 lE) frE ok)) T.ic T.sub))) (fun H18 hc s18 => absurd hc (by simp)) fun H18 hc s18 => ?_
    exact ⟨_, _, _, _, _, _, _, _, _, _, _, _, _, _, _, _, _, _, _, rfl, (sameX (s1.trans s2) nf0 ((e3.trans e37).trans e7E)).trans s18⟩
end
end Ew
namespace Ew
open PySem PySem.Spec PyProof.Rows L2
theorem top11_of {P : Program} {w : World} {K : PySem.W.Frag} {mg : Str → Option Value} {base : Heap} {C : Addr} (L : Low K mg) (V1 : Vals1 K mg) (TB : BookTxt K mg C) (N : NoBook K C) (LN : ∃ f fd, Fun K "__len__" "Book.__len__" sLenB f fd ∧ Binds K fd ["self"] [] ∧ Meth K C "__len__" f) (Bany : mg "any" = none) (Bset : mg "set" = none)
    (d0 : ∃ f fd, Fun K "present_readers" "present_readers" sPresent f fd ∧ Binds K fd ["book", "absent"] [] ∧ mg "present_readers" = some (.ref f))
    (d1 : ∃ f fd, Fun K "is_free" "is_free" sFree f fd ∧ Binds K fd ["book", "rows", "reader"] [] ∧ mg "is_free" = some (.ref f))
    (d2 : ∃ f fd, Fun K "can_take" "can_take" sCanT f fd ∧ Binds K fd ["book", "rows", "reader", "work"] [] ∧ mg "can_take" = some (.ref f))
    (d3 : ∃ f fd, Fun K "takers" "takers" sTakers f fd ∧ Binds K fd ["book", "rows", "absent", "work"] [] ∧ mg "takers" = some (.ref f))
    (d4 : ∃ f fd, Fun K "loose_works" "loose_works" sLoose f fd ∧ Binds K fd ["kept", "rows", "reader"] [] ∧ mg "loose_works" = some (.ref f))
    (d5 : ∃ f fd, Fun K "step" "step" sStep f fd ∧ Binds K fd ["book", "kept", "rows", "absent", "work"] [] ∧ mg "step" = some (.ref f))
    (d6 : ∃ f fd, Fun K "is_set_of_works" "is_set_of_works" sIsSetM f fd ∧ Binds K fd ["value", "many"] [] ∧ mg "is_set_of_works" = some (.ref f))
    (d7 : ∃ f fd, Fun K "is_link" "is_link" sLinkM f fd ∧ Binds K fd ["book", "kept", "rows", "absent", "work", "value"] [] ∧ mg "is_link" = some (.ref f))
    (d8 : ∃ f fd, Fun K "is_chain" "is_chain" sChainM f fd ∧ Binds K fd ["book", "kept", "rows", "absent", "work", "value"] [] ∧ mg "is_chain" = some (.ref f))
    (d9 : ∃ f fd, Fun K "is_barred" "is_barred" sBarred f fd ∧ Binds K fd ["book", "kept", "rows", "reader", "works"] [] ∧ mg "is_barred" = some (.ref f))
    (d10 : ∃ f fd, Fun K "is_closed" "is_closed" sClosedM f fd ∧ Binds K fd ["book", "kept", "rows", "absent", "value"] [] ∧ mg "is_closed" = some (.ref f))
    (d11 : ∃ f fd, Fun K "_law_present" "_law_present" sLPrs f fd ∧ Binds K fd ["readers", "absent"] [] ∧ mg "_law_present" = some (.ref f))
    (d12 : ∃ f fd, Fun K "_law_sets" "_law_sets" sLSets f fd ∧ Binds K fd ["things"] [] ∧ mg "_law_sets" = some (.ref f))
    (d13 : ∃ f fd, Fun K "_law_is_set" "_law_is_set" sLSetM f fd ∧ Binds K fd ["value", "works"] [] ∧ mg "_law_is_set" = some (.ref f))
    (d14 : ∃ f fd, Fun K "_law_is_number" "_law_is_number" sLNumA f fd ∧ Binds K fd ["value", "many"] [] ∧ mg "_law_is_number" = some (.ref f))
    (d15 : ∃ f fd, Fun K "_law_links" "_law_links" sLinksM f fd ∧ Binds K fd ["readers", "kept", "rows", "absent", "work", "value"] [] ∧ mg "_law_links" = some (.ref f))
    (d16 : ∃ f fd, Fun K "_law_shut" "_law_shut" sShutM f fd ∧ Binds K fd ["readers", "kept", "rows", "absent", "value", "works"] [] ∧ mg "_law_shut" = some (.ref f))
    (d17 : ∃ f fd, Fun K "_law_gone" "_law_gone" sGone f fd ∧ Binds K fd ["feed", "readers"] [] ∧ mg "_law_gone" = some (.ref f))
    (d18 : ∃ f fd, Fun K "_law_larger" "_law_larger" sLarger f fd ∧ Binds K fd ["feed", "readers", "kept", "absent"] [] ∧ mg "_law_larger" = some (.ref f))
    (d19 : ∃ f fd, Fun K "_law_state" "_law_state" sState f fd ∧ Binds K fd ["feed", "readers"] [] ∧ mg "_law_state" = some (.ref f))
    (d20 : ∃ f fd, Fun K "_law_walked" "_law_walked" sLWalk f fd ∧ Binds K fd ["feed", "readers", "kept", "rows", "absent", "work"] [] ∧ mg "_law_walked" = some (.ref f))
    (d21 : ∃ f fd, Fun K "_law_near_chain" "_law_near_chain" sNearC f fd ∧ Binds K fd ["feed", "readers", "links", "works"] [] ∧ mg "_law_near_chain" = some (.ref f))
    (d22 : ∃ f fd, Fun K "_law_near_set" "_law_near_set" sNearS f fd ∧ Binds K fd ["feed", "works", "value"] [] ∧ mg "_law_near_set" = some (.ref f)) : Top11 P w K mg base C := by
  have L' := L
  have B := L.bi
  have V1' := V1
  obtain ⟨_, _, _, _, ⟨fI, fdI, FI, bI, gI⟩, _, ⟨fA, fdA, FA, bA, gA⟩, _, _⟩ := V1'
  obtain ⟨_, ⟨fF, fdF, FF, bF, gF⟩, ⟨fTk, fdTk, FTk, bTk, gTk⟩, ⟨fPk, fdPk, FPk, bPk, gPk⟩, ⟨fRw, fdRw, FRw, bRw, gRw⟩, ⟨fS, fdS, FS, bS, gS⟩, _, ⟨fB, fdB, FB, bB, gB⟩⟩ := L'
  have T : BkC P w K mg base C := bkC_of TB V1 N LN
  have cI : C8.Cal P w K mg base 1 "is_integer" (spIsInt K) [] := ⟨fI, fdI, _, [], ok_isInt FI B, gI, FI.kp, bI, .nil⟩
  have cA : C8.Cal P w K mg base 2 "is_ascending" (spIsAsc K) [] := ⟨fA, fdA, _, [], ok_isAsc FA V1, gA, FA.kp, bA, .nil⟩
  have cTk : C8.Cal P w K mg base 1 "_law_take" spTake [] := ⟨fTk, fdTk, _, [], ok_take FTk B, gTk, FTk.kp, bTk, .nil⟩
  have c_present_readers := c_present_readers (P := P) (w := w) (base := base) ⟨d0⟩ B T 
  have c_is_free := c_is_free (P := P) (w := w) (base := base) ⟨d1⟩ B T 
  have c_can_take := c_can_take (P := P) (w := w) (base := base) ⟨d2⟩ B T 
  have c_takers := c_takers (P := P) (w := w) (base := base) ⟨d3⟩ B T c_present_readers c_can_take
  have c_loose_works := c_loose_works (P := P) (w := w) (base := base) ⟨d4⟩ B T 
  have c_step := c_step (P := P) (w := w) (base := base) ⟨d5⟩ B T c_takers c_is_free c_loose_works
  have c_is_set_of_works := c_is_setM (P := P) (w := w) (base := base) (C := C) ⟨d6⟩ B cA
  have c_is_link := c_is_linkM (P := P) (w := w) (base := base) (C := C) ⟨d7⟩ B T cI c_takers c_is_free c_loose_works
  have c_is_chain := c_is_chainM (P := P) (w := w) (base := base) (C := C) ⟨d8⟩ B T c_is_link
  have c_is_barred := c_is_barred (P := P) (w := w) (base := base) (C := C) ⟨d9⟩ B T c_can_take c_is_free c_loose_works Bany
  have c_is_closed := c_is_closedM (P := P) (w := w) (base := base) (C := C) ⟨d10⟩ B T c_is_set_of_works c_is_barred c_present_readers
  have c__law_present := c__law_present (P := P) (w := w) (base := base) ⟨d11⟩ B T 
  have c__law_sets := c__law_sets (P := P) (w := w) (base := base) (C := C) ⟨d12⟩ B 
  have c__law_is_set := c_law_setM (P := P) (w := w) (base := base) (C := C) ⟨d13⟩ B Bset
  have c__law_is_number := c_law_numA (P := P) (w := w) (base := base) (C := C) ⟨d14⟩ B
  have c__law_links := c_law_linksM (P := P) (w := w) (base := base) (C := C) ⟨d15⟩ B c__law_is_number
  have c__law_shut := c_law_shutM (P := P) (w := w) (base := base) (C := C) ⟨d16⟩ B c__law_is_set c__law_present
  obtain ⟨flaw_gone, fdlaw_gone, Flaw_gone, blaw_gone, glaw_gone⟩ := d17
  have c__law_gone : C8.Cal P w K mg base 2 "_law_gone" (spGone K) [] := ⟨flaw_gone, fdlaw_gone, _, [], ok_gone Flaw_gone L, glaw_gone, Flaw_gone.kp, blaw_gone, .nil⟩
  have c__law_larger := c__law_larger (P := P) (w := w) (base := base) (C := C) ⟨d18⟩ B cTk
  have c__law_state := c__law_state (P := P) (w := w) (base := base) (C := C) ⟨d19⟩ B c__law_gone ⟨fPk, fdPk, _, [], ok_pick FPk FTk bTk gTk B, gPk, FPk.kp, bPk, .nil⟩ ⟨fS, fdS, _, [], ok_rows FS FTk bTk gTk FRw bRw gRw B, gS, FS.kp, bS, .nil⟩ c__law_larger
  have c__law_walked := c__law_walked (P := P) (w := w) (base := base) (C := C) ⟨d20⟩ B cTk ⟨fPk, fdPk, _, [], ok_pick FPk FTk bTk gTk B, gPk, FPk.kp, bPk, .nil⟩ c__law_present
  have c__law_near_chain := c__law_near_chain (P := P) (w := w) (base := base) (C := C) ⟨d21⟩ B cTk ⟨fPk, fdPk, _, [], ok_pick FPk FTk bTk gTk B, gPk, FPk.kp, bPk, .nil⟩
  have c__law_near_set := c__law_near_set (P := P) (w := w) (base := base) (C := C) ⟨d22⟩ B cTk ⟨fPk, fdPk, _, [], ok_pick FPk FTk bTk gTk B, gPk, FPk.kp, bPk, .nil⟩
  exact ⟨B, T, ⟨fF, fdF, _, [], ok_feed FF B, gF, FF.kp, bF, .nil⟩, cTk, ⟨fPk, fdPk, _, [], ok_pick FPk FTk bTk gTk B, gPk, FPk.kp, bPk, .nil⟩, ⟨fB, fdB, _, [], ok_book FB L, gB, FB.kp, bB, .nil⟩, c__law_sets, c__law_state, c_step, c__law_walked, c__law_near_chain, c__law_links, c_is_chain, c__law_near_set, c__law_shut, c_is_closed⟩
end Ew
namespace Ew
open PySem PySem.Spec PyProof.Rows L2
theorem notF {K : PySem.W.Frag} {C : Addr} {t : Value} (h : PySem.W.subIn K t (.ref C) = some false) : PySem.W.notFirst K C t = true := by
  unfold PySem.W.notFirst
  rw [h]
  simp
set_option maxHeartbeats 0 in
theorem all_mk {l : PySem.W.OpenLaw} {w : World} {K : PySem.W.Frag} {h : Heap} {mg : Str → Option Value} {fa : Addr} (X : K.In h) (G : h.Ns mainGlobals mg) (hfa : mg "law" = some (.ref fa))
    {f1 : Addr} {od1 an1 : Option Addr} {sl1 : Array (Option Value)} {oc1 kV1 dc1 pm1 cd1 ct1 : Value}
    {f2 : Addr} {od2 an2 : Option Addr} {sl2 : Array (Option Value)} {oc2 kV2 dc2 pm2 cd2 ct2 : Value}
    {f3 : Addr} {od3 an3 : Option Addr} {sl3 : Array (Option Value)} {oc3 kV3 dc3 pm3 cd3 ct3 : Value}
    {f4 : Addr} {od4 an4 : Option Addr} {sl4 : Array (Option Value)} {oc4 kV4 dc4 pm4 cd4 ct4 : Value}
    {f5 : Addr} {od5 an5 : Option Addr} {sl5 : Array (Option Value)} {oc5 kV5 dc5 pm5 cd5 ct5 : Value}
    {f6 : Addr} {od6 an6 : Option Addr} {sl6 : Array (Option Value)} {oc6 kV6 dc6 pm6 cd6 ct6 : Value}
    {f7 : Addr} {od7 an7 : Option Addr} {sl7 : Array (Option Value)} {oc7 kV7 dc7 pm7 cd7 ct7 : Value}
    {f8 : Addr} {od8 an8 : Option Addr} {sl8 : Array (Option Value)} {oc8 kV8 dc8 pm8 cd8 ct8 : Value}
    {f9 : Addr} {od9 an9 : Option Addr} {sl9 : Array (Option Value)} {oc9 kV9 dc9 pm9 cd9 ct9 : Value}
    {f10 : Addr} {od10 an10 : Option Addr} {sl10 : Array (Option Value)} {oc10 kV10 dc10 pm10 cd10 ct10 : Value}
    {f11 : Addr} {od11 an11 : Option Addr} {sl11 : Array (Option Value)} {oc11 kV11 dc11 pm11 cd11 ct11 : Value}
    {f12 : Addr} {od12 an12 : Option Addr} {sl12 : Array (Option Value)} {oc12 kV12 dc12 pm12 cd12 ct12 : Value}
    {f13 : Addr} {od13 an13 : Option Addr} {sl13 : Array (Option Value)} {oc13 kV13 dc13 pm13 cd13 ct13 : Value}
    {f14 : Addr} {od14 an14 : Option Addr} {sl14 : Array (Option Value)} {oc14 kV14 dc14 pm14 cd14 ct14 : Value}
    {f15 : Addr} {od15 an15 : Option Addr} {sl15 : Array (Option Value)} {oc15 kV15 dc15 pm15 cd15 ct15 : Value}
    {f16 : Addr} {od16 an16 : Option Addr} {sl16 : Array (Option Value)} {oc16 kV16 dc16 pm16 cd16 ct16 : Value}
    {f17 : Addr} {od17 an17 : Option Addr} {sl17 : Array (Option Value)} {oc17 kV17 dc17 pm17 cd17 ct17 : Value}
    {f18 : Addr} {od18 an18 : Option Addr} {sl18 : Array (Option Value)} {oc18 kV18 dc18 pm18 cd18 ct18 : Value}
    {f19 : Addr} {od19 an19 : Option Addr} {sl19 : Array (Option Value)} {oc19 kV19 dc19 pm19 cd19 ct19 : Value}
    {f20 : Addr} {od20 an20 : Option Addr} {sl20 : Array (Option Value)} {oc20 kV20 dc20 pm20 cd20 ct20 : Value}
    {f21 : Addr} {od21 an21 : Option Addr} {sl21 : Array (Option Value)} {oc21 kV21 dc21 pm21 cd21 ct21 : Value}
    {f22 : Addr} {od22 an22 : Option Addr} {sl22 : Array (Option Value)} {oc22 kV22 dc22 pm22 cd22 ct22 : Value}
    {f23 : Addr} {od23 an23 : Option Addr} {sl23 : Array (Option Value)} {oc23 kV23 dc23 pm23 cd23 ct23 : Value}
    {f24 : Addr} {od24 an24 : Option Addr} {sl24 : Array (Option Value)} {oc24 kV24 dc24 pm24 cd24 ct24 : Value}
    {f25 : Addr} {od25 an25 : Option Addr} {sl25 : Array (Option Value)} {oc25 kV25 dc25 pm25 cd25 ct25 : Value}
    {f26 : Addr} {od26 an26 : Option Addr} {sl26 : Array (Option Value)} {oc26 kV26 dc26 pm26 cd26 ct26 : Value}
    {f27 : Addr} {od27 an27 : Option Addr} {sl27 : Array (Option Value)} {oc27 kV27 dc27 pm27 cd27 ct27 : Value}
    {f28 : Addr} {od28 an28 : Option Addr} {sl28 : Array (Option Value)} {oc28 kV28 dc28 pm28 cd28 ct28 : Value}
    {f29 : Addr} {od29 an29 : Option Addr} {sl29 : Array (Option Value)} {oc29 kV29 dc29 pm29 cd29 ct29 : Value}
    {f30 : Addr} {od30 an30 : Option Addr} {sl30 : Array (Option Value)} {oc30 kV30 dc30 pm30 cd30 ct30 : Value}
    {f31 : Addr} {od31 an31 : Option Addr} {sl31 : Array (Option Value)} {oc31 kV31 dc31 pm31 cd31 ct31 : Value}
    {f32 : Addr} {od32 an32 : Option Addr} {sl32 : Array (Option Value)} {oc32 kV32 dc32 pm32 cd32 ct32 : Value}
    {f33 : Addr} {od33 an33 : Option Addr} {sl33 : Array (Option Value)} {oc33 kV33 dc33 pm33 cd33 ct33 : Value}
    {f34 : Addr} {od34 an34 : Option Addr} {sl34 : Array (Option Value)} {oc34 kV34 dc34 pm34 cd34 ct34 : Value}
    {f35 : Addr} {od35 an35 : Option Addr} {sl35 : Array (Option Value)} {oc35 kV35 dc35 pm35 cd35 ct35 : Value}
    {f36 : Addr} {od36 an36 : Option Addr} {sl36 : Array (Option Value)} {oc36 kV36 dc36 pm36 cd36 ct36 : Value}
    {C : Addr}
    {fm1 : Addr} {odm1 anm1 : Option Addr} {slm1 : Array (Option Value)} {ocm1 kVm1 dcm1 pmm1 cdm1 ctm1 : Value}
    {fm2 : Addr} {odm2 anm2 : Option Addr} {slm2 : Array (Option Value)} {ocm2 kVm2 dcm2 pmm2 cdm2 ctm2 : Value}
    {fm3 : Addr} {odm3 anm3 : Option Addr} {slm3 : Array (Option Value)} {ocm3 kVm3 dcm3 pmm3 cdm3 ctm3 : Value}
    {fm4 : Addr} {odm4 anm4 : Option Addr} {slm4 : Array (Option Value)} {ocm4 kVm4 dcm4 pmm4 cdm4 ctm4 : Value}
    {fm5 : Addr} {odm5 anm5 : Option Addr} {slm5 : Array (Option Value)} {ocm5 kVm5 dcm5 pmm5 cdm5 ctm5 : Value}
    {g0 g1 g2 : Tok}
    (a1 : PySem.W.nsIn K mainGlobals "is_integer" = some (some (.ref f1)))
    (l1 : K.lookup f1 = some ⟨oc1, od1, .func (PySem.W.fnOf "is_integer" "is_integer" (defArgs sIsInt) (defBody sIsInt) (defScope sIsInt) .none kV1 dc1 pm1 an1 cd1 ct1), sl1⟩)
    (c1 : PySem.W.codeIn K cd1 "is_integer" = true)
    (k1 : PySem.W.keepIn K (.ref f1) = true)
    (a2 : PySem.W.nsIn K mainGlobals "is_amount" = some (some (.ref f2)))
    (l2 : K.lookup f2 = some ⟨oc2, od2, .func (PySem.W.fnOf "is_amount" "is_amount" (defArgs sIsAmt) (defBody sIsAmt) (defScope sIsAmt) .none kV2 dc2 pm2 an2 cd2 ct2), sl2⟩)
    (c2 : PySem.W.codeIn K cd2 "is_amount" = true)
    (k2 : PySem.W.keepIn K (.ref f2) = true)
    (a3 : PySem.W.nsIn K mainGlobals "is_ascending" = some (some (.ref f3)))
    (l3 : K.lookup f3 = some ⟨oc3, od3, .func (PySem.W.fnOf "is_ascending" "is_ascending" (defArgs sIsAsc) (defBody sIsAsc) (defScope sIsAsc) .none kV3 dc3 pm3 an3 cd3 ct3), sl3⟩)
    (c3 : PySem.W.codeIn K cd3 "is_ascending" = true)
    (k3 : PySem.W.keepIn K (.ref f3) = true)
    (a4 : PySem.W.nsIn K mainGlobals "are_demands" = some (some (.ref f4)))
    (l4 : K.lookup f4 = some ⟨oc4, od4, .func (PySem.W.fnOf "are_demands" "are_demands" (defArgs sAreDem) (defBody sAreDem) (defScope sAreDem) .none kV4 dc4 pm4 an4 cd4 ct4), sl4⟩)
    (c4 : PySem.W.codeIn K cd4 "are_demands" = true)
    (k4 : PySem.W.keepIn K (.ref f4) = true)
    (a5 : PySem.W.nsIn K mainGlobals "is_reader" = some (some (.ref f5)))
    (l5 : K.lookup f5 = some ⟨oc5, od5, .func (PySem.W.fnOf "is_reader" "is_reader" (defArgs sIsRd) (defBody sIsRd) (defScope sIsRd) .none kV5 dc5 pm5 an5 cd5 ct5), sl5⟩)
    (c5 : PySem.W.codeIn K cd5 "is_reader" = true)
    (k5 : PySem.W.keepIn K (.ref f5) = true)
    (a6 : PySem.W.nsIn K mainGlobals "_law_feed" = some (some (.ref f6)))
    (l6 : K.lookup f6 = some ⟨oc6, od6, .func (PySem.W.fnOf "_law_feed" "_law_feed" (defArgs sFeed) (defBody sFeed) (defScope sFeed) .none kV6 dc6 pm6 an6 cd6 ct6), sl6⟩)
    (c6 : PySem.W.codeIn K cd6 "_law_feed" = true)
    (k6 : PySem.W.keepIn K (.ref f6) = true)
    (a7 : PySem.W.nsIn K mainGlobals "_law_take" = some (some (.ref f7)))
    (l7 : K.lookup f7 = some ⟨oc7, od7, .func (PySem.W.fnOf "_law_take" "_law_take" (defArgs sTake) (defBody sTake) (defScope sTake) .none kV7 dc7 pm7 an7 cd7 ct7), sl7⟩)
    (c7 : PySem.W.codeIn K cd7 "_law_take" = true)
    (k7 : PySem.W.keepIn K (.ref f7) = true)
    (a8 : PySem.W.nsIn K mainGlobals "_law_pick" = some (some (.ref f8)))
    (l8 : K.lookup f8 = some ⟨oc8, od8, .func (PySem.W.fnOf "_law_pick" "_law_pick" (defArgs sPick) (defBody sPick) (defScope sPick) .none kV8 dc8 pm8 an8 cd8 ct8), sl8⟩)
    (c8 : PySem.W.codeIn K cd8 "_law_pick" = true)
    (k8 : PySem.W.keepIn K (.ref f8) = true)
    (a9 : PySem.W.nsIn K mainGlobals "_law_row" = some (some (.ref f9)))
    (l9 : K.lookup f9 = some ⟨oc9, od9, .func (PySem.W.fnOf "_law_row" "_law_row" (defArgs sRow) (defBody sRow) (defScope sRow) .none kV9 dc9 pm9 an9 cd9 ct9), sl9⟩)
    (c9 : PySem.W.codeIn K cd9 "_law_row" = true)
    (k9 : PySem.W.keepIn K (.ref f9) = true)
    (a10 : PySem.W.nsIn K mainGlobals "_law_rows" = some (some (.ref f10)))
    (l10 : K.lookup f10 = some ⟨oc10, od10, .func (PySem.W.fnOf "_law_rows" "_law_rows" (defArgs sRows) (defBody sRows) (defScope sRows) .none kV10 dc10 pm10 an10 cd10 ct10), sl10⟩)
    (c10 : PySem.W.codeIn K cd10 "_law_rows" = true)
    (k10 : PySem.W.keepIn K (.ref f10) = true)
    (a11 : PySem.W.nsIn K mainGlobals "_law_times" = some (some (.ref f11)))
    (l11 : K.lookup f11 = some ⟨oc11, od11, .func (PySem.W.fnOf "_law_times" "_law_times" (defArgs sTimes) (defBody sTimes) (defScope sTimes) .none kV11 dc11 pm11 an11 cd11 ct11), sl11⟩)
    (c11 : PySem.W.codeIn K cd11 "_law_times" = true)
    (k11 : PySem.W.keepIn K (.ref f11) = true)
    (a12 : PySem.W.nsIn K mainGlobals "_law_book" = some (some (.ref f12)))
    (l12 : K.lookup f12 = some ⟨oc12, od12, .func (PySem.W.fnOf "_law_book" "_law_book" (defArgs sBook) (defBody sBook) (defScope sBook) .none kV12 dc12 pm12 an12 cd12 ct12), sl12⟩)
    (c12 : PySem.W.codeIn K cd12 "_law_book" = true)
    (k12 : PySem.W.keepIn K (.ref f12) = true)
    (a13 : PySem.W.nsIn K mainGlobals "present_readers" = some (some (.ref f13)))
    (l13 : K.lookup f13 = some ⟨oc13, od13, .func (PySem.W.fnOf "present_readers" "present_readers" (defArgs sPresent) (defBody sPresent) (defScope sPresent) .none kV13 dc13 pm13 an13 cd13 ct13), sl13⟩)
    (c13 : PySem.W.codeIn K cd13 "present_readers" = true)
    (k13 : PySem.W.keepIn K (.ref f13) = true)
    (a14 : PySem.W.nsIn K mainGlobals "is_free" = some (some (.ref f14)))
    (l14 : K.lookup f14 = some ⟨oc14, od14, .func (PySem.W.fnOf "is_free" "is_free" (defArgs sFree) (defBody sFree) (defScope sFree) .none kV14 dc14 pm14 an14 cd14 ct14), sl14⟩)
    (c14 : PySem.W.codeIn K cd14 "is_free" = true)
    (k14 : PySem.W.keepIn K (.ref f14) = true)
    (a15 : PySem.W.nsIn K mainGlobals "can_take" = some (some (.ref f15)))
    (l15 : K.lookup f15 = some ⟨oc15, od15, .func (PySem.W.fnOf "can_take" "can_take" (defArgs sCanT) (defBody sCanT) (defScope sCanT) .none kV15 dc15 pm15 an15 cd15 ct15), sl15⟩)
    (c15 : PySem.W.codeIn K cd15 "can_take" = true)
    (k15 : PySem.W.keepIn K (.ref f15) = true)
    (a16 : PySem.W.nsIn K mainGlobals "takers" = some (some (.ref f16)))
    (l16 : K.lookup f16 = some ⟨oc16, od16, .func (PySem.W.fnOf "takers" "takers" (defArgs sTakers) (defBody sTakers) (defScope sTakers) .none kV16 dc16 pm16 an16 cd16 ct16), sl16⟩)
    (c16 : PySem.W.codeIn K cd16 "takers" = true)
    (k16 : PySem.W.keepIn K (.ref f16) = true)
    (a17 : PySem.W.nsIn K mainGlobals "loose_works" = some (some (.ref f17)))
    (l17 : K.lookup f17 = some ⟨oc17, od17, .func (PySem.W.fnOf "loose_works" "loose_works" (defArgs sLoose) (defBody sLoose) (defScope sLoose) .none kV17 dc17 pm17 an17 cd17 ct17), sl17⟩)
    (c17 : PySem.W.codeIn K cd17 "loose_works" = true)
    (k17 : PySem.W.keepIn K (.ref f17) = true)
    (a18 : PySem.W.nsIn K mainGlobals "step" = some (some (.ref f18)))
    (l18 : K.lookup f18 = some ⟨oc18, od18, .func (PySem.W.fnOf "step" "step" (defArgs sStep) (defBody sStep) (defScope sStep) .none kV18 dc18 pm18 an18 cd18 ct18), sl18⟩)
    (c18 : PySem.W.codeIn K cd18 "step" = true)
    (k18 : PySem.W.keepIn K (.ref f18) = true)
    (a19 : PySem.W.nsIn K mainGlobals "is_set_of_works" = some (some (.ref f19)))
    (l19 : K.lookup f19 = some ⟨oc19, od19, .func (PySem.W.fnOf "is_set_of_works" "is_set_of_works" (defArgs sIsSetM) (defBody sIsSetM) (defScope sIsSetM) .none kV19 dc19 pm19 an19 cd19 ct19), sl19⟩)
    (c19 : PySem.W.codeIn K cd19 "is_set_of_works" = true)
    (k19 : PySem.W.keepIn K (.ref f19) = true)
    (a20 : PySem.W.nsIn K mainGlobals "is_link" = some (some (.ref f20)))
    (l20 : K.lookup f20 = some ⟨oc20, od20, .func (PySem.W.fnOf "is_link" "is_link" (defArgs sLinkM) (defBody sLinkM) (defScope sLinkM) .none kV20 dc20 pm20 an20 cd20 ct20), sl20⟩)
    (c20 : PySem.W.codeIn K cd20 "is_link" = true)
    (k20 : PySem.W.keepIn K (.ref f20) = true)
    (a21 : PySem.W.nsIn K mainGlobals "is_chain" = some (some (.ref f21)))
    (l21 : K.lookup f21 = some ⟨oc21, od21, .func (PySem.W.fnOf "is_chain" "is_chain" (defArgs sChainM) (defBody sChainM) (defScope sChainM) .none kV21 dc21 pm21 an21 cd21 ct21), sl21⟩)
    (c21 : PySem.W.codeIn K cd21 "is_chain" = true)
    (k21 : PySem.W.keepIn K (.ref f21) = true)
    (a22 : PySem.W.nsIn K mainGlobals "is_barred" = some (some (.ref f22)))
    (l22 : K.lookup f22 = some ⟨oc22, od22, .func (PySem.W.fnOf "is_barred" "is_barred" (defArgs sBarred) (defBody sBarred) (defScope sBarred) .none kV22 dc22 pm22 an22 cd22 ct22), sl22⟩)
    (c22 : PySem.W.codeIn K cd22 "is_barred" = true)
    (k22 : PySem.W.keepIn K (.ref f22) = true)
    (a23 : PySem.W.nsIn K mainGlobals "is_closed" = some (some (.ref f23)))
    (l23 : K.lookup f23 = some ⟨oc23, od23, .func (PySem.W.fnOf "is_closed" "is_closed" (defArgs sClosedM) (defBody sClosedM) (defScope sClosedM) .none kV23 dc23 pm23 an23 cd23 ct23), sl23⟩)
    (c23 : PySem.W.codeIn K cd23 "is_closed" = true)
    (k23 : PySem.W.keepIn K (.ref f23) = true)
    (a24 : PySem.W.nsIn K mainGlobals "_law_present" = some (some (.ref f24)))
    (l24 : K.lookup f24 = some ⟨oc24, od24, .func (PySem.W.fnOf "_law_present" "_law_present" (defArgs sLPrs) (defBody sLPrs) (defScope sLPrs) .none kV24 dc24 pm24 an24 cd24 ct24), sl24⟩)
    (c24 : PySem.W.codeIn K cd24 "_law_present" = true)
    (k24 : PySem.W.keepIn K (.ref f24) = true)
    (a25 : PySem.W.nsIn K mainGlobals "_law_sets" = some (some (.ref f25)))
    (l25 : K.lookup f25 = some ⟨oc25, od25, .func (PySem.W.fnOf "_law_sets" "_law_sets" (defArgs sLSets) (defBody sLSets) (defScope sLSets) .none kV25 dc25 pm25 an25 cd25 ct25), sl25⟩)
    (c25 : PySem.W.codeIn K cd25 "_law_sets" = true)
    (k25 : PySem.W.keepIn K (.ref f25) = true)
    (a26 : PySem.W.nsIn K mainGlobals "_law_is_set" = some (some (.ref f26)))
    (l26 : K.lookup f26 = some ⟨oc26, od26, .func (PySem.W.fnOf "_law_is_set" "_law_is_set" (defArgs sLSetM) (defBody sLSetM) (defScope sLSetM) .none kV26 dc26 pm26 an26 cd26 ct26), sl26⟩)
    (c26 : PySem.W.codeIn K cd26 "_law_is_set" = true)
    (k26 : PySem.W.keepIn K (.ref f26) = true)
    (a27 : PySem.W.nsIn K mainGlobals "_law_is_number" = some (some (.ref f27)))
    (l27 : K.lookup f27 = some ⟨oc27, od27, .func (PySem.W.fnOf "_law_is_number" "_law_is_number" (defArgs sLNumA) (defBody sLNumA) (defScope sLNumA) .none kV27 dc27 pm27 an27 cd27 ct27), sl27⟩)
    (c27 : PySem.W.codeIn K cd27 "_law_is_number" = true)
    (k27 : PySem.W.keepIn K (.ref f27) = true)
    (a28 : PySem.W.nsIn K mainGlobals "_law_links" = some (some (.ref f28)))
    (l28 : K.lookup f28 = some ⟨oc28, od28, .func (PySem.W.fnOf "_law_links" "_law_links" (defArgs sLinksM) (defBody sLinksM) (defScope sLinksM) .none kV28 dc28 pm28 an28 cd28 ct28), sl28⟩)
    (c28 : PySem.W.codeIn K cd28 "_law_links" = true)
    (k28 : PySem.W.keepIn K (.ref f28) = true)
    (a29 : PySem.W.nsIn K mainGlobals "_law_shut" = some (some (.ref f29)))
    (l29 : K.lookup f29 = some ⟨oc29, od29, .func (PySem.W.fnOf "_law_shut" "_law_shut" (defArgs sShutM) (defBody sShutM) (defScope sShutM) .none kV29 dc29 pm29 an29 cd29 ct29), sl29⟩)
    (c29 : PySem.W.codeIn K cd29 "_law_shut" = true)
    (k29 : PySem.W.keepIn K (.ref f29) = true)
    (a30 : PySem.W.nsIn K mainGlobals "_law_gone" = some (some (.ref f30)))
    (l30 : K.lookup f30 = some ⟨oc30, od30, .func (PySem.W.fnOf "_law_gone" "_law_gone" (defArgs sGone) (defBody sGone) (defScope sGone) .none kV30 dc30 pm30 an30 cd30 ct30), sl30⟩)
    (c30 : PySem.W.codeIn K cd30 "_law_gone" = true)
    (k30 : PySem.W.keepIn K (.ref f30) = true)
    (a31 : PySem.W.nsIn K mainGlobals "_law_larger" = some (some (.ref f31)))
    (l31 : K.lookup f31 = some ⟨oc31, od31, .func (PySem.W.fnOf "_law_larger" "_law_larger" (defArgs sLarger) (defBody sLarger) (defScope sLarger) .none kV31 dc31 pm31 an31 cd31 ct31), sl31⟩)
    (c31 : PySem.W.codeIn K cd31 "_law_larger" = true)
    (k31 : PySem.W.keepIn K (.ref f31) = true)
    (a32 : PySem.W.nsIn K mainGlobals "_law_state" = some (some (.ref f32)))
    (l32 : K.lookup f32 = some ⟨oc32, od32, .func (PySem.W.fnOf "_law_state" "_law_state" (defArgs sState) (defBody sState) (defScope sState) .none kV32 dc32 pm32 an32 cd32 ct32), sl32⟩)
    (c32 : PySem.W.codeIn K cd32 "_law_state" = true)
    (k32 : PySem.W.keepIn K (.ref f32) = true)
    (a33 : PySem.W.nsIn K mainGlobals "_law_walked" = some (some (.ref f33)))
    (l33 : K.lookup f33 = some ⟨oc33, od33, .func (PySem.W.fnOf "_law_walked" "_law_walked" (defArgs sLWalk) (defBody sLWalk) (defScope sLWalk) .none kV33 dc33 pm33 an33 cd33 ct33), sl33⟩)
    (c33 : PySem.W.codeIn K cd33 "_law_walked" = true)
    (k33 : PySem.W.keepIn K (.ref f33) = true)
    (a34 : PySem.W.nsIn K mainGlobals "_law_near_chain" = some (some (.ref f34)))
    (l34 : K.lookup f34 = some ⟨oc34, od34, .func (PySem.W.fnOf "_law_near_chain" "_law_near_chain" (defArgs sNearC) (defBody sNearC) (defScope sNearC) .none kV34 dc34 pm34 an34 cd34 ct34), sl34⟩)
    (c34 : PySem.W.codeIn K cd34 "_law_near_chain" = true)
    (k34 : PySem.W.keepIn K (.ref f34) = true)
    (a35 : PySem.W.nsIn K mainGlobals "_law_near_set" = some (some (.ref f35)))
    (l35 : K.lookup f35 = some ⟨oc35, od35, .func (PySem.W.fnOf "_law_near_set" "_law_near_set" (defArgs sNearS) (defBody sNearS) (defScope sNearS) .none kV35 dc35 pm35 an35 cd35 ct35), sl35⟩)
    (c35 : PySem.W.codeIn K cd35 "_law_near_set" = true)
    (k35 : PySem.W.keepIn K (.ref f35) = true)
    (a36 : PySem.W.nsIn K mainGlobals "law" = some (some (.ref f36)))
    (l36 : K.lookup f36 = some ⟨oc36, od36, .func (PySem.W.fnOf "law" "law" (defArgs sLaw) (defBody sLaw) (defScope sLaw) .none kV36 dc36 pm36 an36 cd36 ct36), sl36⟩)
    (c36 : PySem.W.codeIn K cd36 "law" = true)
    (k36 : PySem.W.keepIn K (.ref f36) = true)
    (aC : PySem.W.nsIn K mainGlobals "Book" = some (some (.ref C)))
    (am1 : PySem.W.findIn K (.ref C) "__init__" = some (some (.ref fm1)))
    (im1 : PySem.W.isFn K (.ref fm1) = true)
    (lm1 : K.lookup fm1 = some ⟨ocm1, odm1, .func (PySem.W.fnOf "__init__" "Book.__init__" (defArgs sBkInit) (defBody sBkInit) (defScope sBkInit) .none kVm1 dcm1 pmm1 anm1 cdm1 ctm1), slm1⟩)
    (cm1 : PySem.W.codeIn K cdm1 "Book.__init__" = true)
    (km1 : PySem.W.keepIn K (.ref fm1) = true)
    (am2 : PySem.W.findIn K (.ref C) "demands" = some (some (.ref fm2)))
    (im2 : PySem.W.isFn K (.ref fm2) = true)
    (lm2 : K.lookup fm2 = some ⟨ocm2, odm2, .func (PySem.W.fnOf "demands" "Book.demands" (defArgs sBkDem) (defBody sBkDem) (defScope sBkDem) .none kVm2 dcm2 pmm2 anm2 cdm2 ctm2), slm2⟩)
    (cm2 : PySem.W.codeIn K cdm2 "Book.demands" = true)
    (km2 : PySem.W.keepIn K (.ref fm2) = true)
    (am3 : PySem.W.findIn K (.ref C) "readers" = some (some (.ref fm3)))
    (im3 : PySem.W.isFn K (.ref fm3) = true)
    (lm3 : K.lookup fm3 = some ⟨ocm3, odm3, .func (PySem.W.fnOf "readers" "Book.readers" (defArgs sBkRd) (defBody sBkRd) (defScope sBkRd) .none kVm3 dcm3 pmm3 anm3 cdm3 ctm3), slm3⟩)
    (cm3 : PySem.W.codeIn K cdm3 "Book.readers" = true)
    (km3 : PySem.W.keepIn K (.ref fm3) = true)
    (am4 : PySem.W.findIn K (.ref C) "__eq__" = some (some (.ref fm4)))
    (im4 : PySem.W.isFn K (.ref fm4) = true)
    (lm4 : K.lookup fm4 = some ⟨ocm4, odm4, .func (PySem.W.fnOf "__eq__" "Book.__eq__" (defArgs sBkEq) (defBody sBkEq) (defScope sBkEq) .none kVm4 dcm4 pmm4 anm4 cdm4 ctm4), slm4⟩)
    (cm4 : PySem.W.codeIn K cdm4 "Book.__eq__" = true)
    (km4 : PySem.W.keepIn K (.ref fm4) = true)
    (am5 : PySem.W.findIn K (.ref C) "__len__" = some (some (.ref fm5)))
    (im5 : PySem.W.isFn K (.ref fm5) = true)
    (lm5 : K.lookup fm5 = some ⟨ocm5, odm5, .func (PySem.W.fnOf "__len__" "Book.__len__" (defArgs sLenB) (defBody sLenB) (defScope sLenB) .none kVm5 dcm5 pmm5 anm5 cdm5 ctm5), slm5⟩)
    (cm5 : PySem.W.codeIn K cdm5 "Book.__len__" = true)
    (km5 : PySem.W.keepIn K (.ref fm5) = true)
    (pg : PySem.W.plainGet K C Str.empty = true)
    (hd : PySem.W.hasDictIn K C = true)
    (po : PySem.W.plainOver K C = true)
    (sa : PySem.W.findIn K (.ref C) "__setattr__" = some (some (.builtin "object.__setattr__")))
    (mk : PySem.W.makesIn K C = true)
    (kc : PySem.W.keepIn K (.ref C) = true)
    (nD : PySem.W.findIn K (.ref C) "_demands" = some none)
    (nR : PySem.W.findIn K (.ref C) "_readers" = some none)
    (ha : PySem.W.findIn K (.ref C) "__class__" = some (some (.builtin "object.__class__")))
    (hn : PySem.W.specialIn K (.builtin "object.__class__") "__get__" = some (some (.builtin "getset_descriptor.__get__")))
    (htk : PySem.W.takesIn K (.builtin "object.__class__") = some true)
    (hm : PySem.W.mroIn K C (.type "object") = some true)
    (me : PySem.W.kitOne K (.ref C) (.ref C) = some true)
    (t0 : PySem.W.kitOne K (.type "NoneType") (.ref C) = some false)
    (u0 : PySem.W.subIn K (.type "NoneType") (.ref C) = some false)
    (t1 : PySem.W.kitOne K (.type "bool") (.ref C) = some false)
    (u1 : PySem.W.subIn K (.type "bool") (.ref C) = some false)
    (t2 : PySem.W.kitOne K (.type "int") (.ref C) = some false)
    (u2 : PySem.W.subIn K (.type "int") (.ref C) = some false)
    (t3 : PySem.W.kitOne K (.type "str") (.ref C) = some false)
    (u3 : PySem.W.subIn K (.type "str") (.ref C) = some false)
    (t4 : PySem.W.kitOne K (.type "list") (.ref C) = some false)
    (u4 : PySem.W.subIn K (.type "list") (.ref C) = some false)
    (t5 : PySem.W.kitOne K (.type "tuple") (.ref C) = some false)
    (u5 : PySem.W.subIn K (.type "tuple") (.ref C) = some false)
    (t6 : PySem.W.kitOne K (.type "dict") (.ref C) = some false)
    (u6 : PySem.W.subIn K (.type "dict") (.ref C) = some false)
    (xany : PySem.W.nsIn K mainGlobals "any" = some none)
    (xset : PySem.W.nsIn K mainGlobals "set" = some none)
    (z0 : PySem.W.nsIn K mainGlobals "len" = some none)
    (z1 : PySem.W.nsIn K mainGlobals "range" = some none)
    (z2 : PySem.W.nsIn K mainGlobals "list" = some none)
    (z3 : PySem.W.nsIn K mainGlobals "tuple" = some none)
    (z4 : PySem.W.nsIn K mainGlobals "int" = some none)
    (z5 : PySem.W.nsIn K mainGlobals "bool" = some none)
    (z6 : PySem.W.nsIn K mainGlobals "abs" = some none)
    (z7 : PySem.W.nsIn K mainGlobals "max" = some none)
    (z8 : PySem.W.nsIn K mainGlobals "min" = some none)
    (z9 : PySem.W.nsIn K mainGlobals "sorted" = some none)
    (z10 : PySem.W.nsIn K mainGlobals "enumerate" = some none)
    (z11 : PySem.W.nsIn K mainGlobals "isinstance" = some none)
    (z12 : PySem.W.nsIn K mainGlobals "all" = some none)
    (z13 : PySem.W.nsIn K mainGlobals "sum" = some none)
    (z14 : PySem.W.nsIn K mainGlobals "zip" = some none)
    (z15 : PySem.W.nsIn K mainGlobals "repr" = some none)
    (g0x : PySem.W.nsIn K mainGlobals "GREATEST_AMOUNT" = some (some (.int 6 g0)))
    (g1x : PySem.W.nsIn K mainGlobals "MOST_WORKS" = some (some (.int 6 g1)))
    (g2x : PySem.W.nsIn K mainGlobals "MOST_READERS" = some (some (.int 6 g2))) :
    ∃ fd : FuncData, (∀ (s : Shared) (v : Value), BindsTo s fd ⟨[v], []⟩ [("script", v)]) ∧ ∀ base : Heap, K.In base → base.Ns mainGlobals mg → (∃ o, base.get? sysModules = some o) → FnOkG l.prog w K mg base 6 fa fd ["script"] (spLaw K) := by
  have e := hfa.symm.trans (PySem.W.mg_of X G a36)
  cases e
  have F1 := fun_mk (st := sIsInt) l1 c1 k1
  have b1 := F1.binds (ps := ["value"]) fun _ _ _ _ _ _ us hl => match us, hl with | [_], _ => rfl
  have F2 := fun_mk (st := sIsAmt) l2 c2 k2
  have b2 := F2.binds (ps := ["value"]) fun _ _ _ _ _ _ us hl => match us, hl with | [_], _ => rfl
  have F3 := fun_mk (st := sIsAsc) l3 c3 k3
  have b3 := F3.binds (ps := ["value", "many"]) fun _ _ _ _ _ _ us hl => match us, hl with | [_, _], _ => rfl
  have F4 := fun_mk (st := sAreDem) l4 c4 k4
  have b4 := F4.binds (ps := ["value"]) fun _ _ _ _ _ _ us hl => match us, hl with | [_], _ => rfl
  have F5 := fun_mk (st := sIsRd) l5 c5 k5
  have b5 := F5.binds (ps := ["value", "many"]) fun _ _ _ _ _ _ us hl => match us, hl with | [_, _], _ => rfl
  have F6 := fun_mk (st := sFeed) l6 c6 k6
  have b6 := F6.binds (ps := ["script", "k"]) fun _ _ _ _ _ _ us hl => match us, hl with | [_, _], _ => rfl
  have F7 := fun_mk (st := sTake) l7 c7 k7
  have b7 := F7.binds (ps := ["feed", "many"]) fun _ _ _ _ _ _ us hl => match us, hl with | [_, _], _ => rfl
  have F8 := fun_mk (st := sPick) l8 c8 k8
  have b8 := F8.binds (ps := ["feed", "some"]) fun _ _ _ _ _ _ us hl => match us, hl with | [_, _], _ => rfl
  have F9 := fun_mk (st := sRow) l9 c9 k9
  have b9 := F9.binds (ps := ["feed", "reader"]) fun _ _ _ _ _ _ us hl => match us, hl with | [_, _], _ => rfl
  have F10 := fun_mk (st := sRows) l10 c10 k10
  have b10 := F10.binds (ps := ["feed", "readers", "absent"]) fun _ _ _ _ _ _ us hl => match us, hl with | [_, _, _], _ => rfl
  have F11 := fun_mk (st := sTimes) l11 c11 k11
  have b11 := F11.binds (ps := ["rows", "works"]) fun _ _ _ _ _ _ us hl => match us, hl with | [_, _], _ => rfl
  have F12 := fun_mk (st := sBook) l12 c12 k12
  have b12 := F12.binds (ps := ["feed", "most_works", "most_readers"]) fun _ _ _ _ _ _ us hl => match us, hl with | [_, _, _], _ => rfl
  have F13 := fun_mk (st := sPresent) l13 c13 k13
  have b13 := F13.binds (ps := ["book", "absent"]) fun _ _ _ _ _ _ us hl => match us, hl with | [_, _], _ => rfl
  have F14 := fun_mk (st := sFree) l14 c14 k14
  have b14 := F14.binds (ps := ["book", "rows", "reader"]) fun _ _ _ _ _ _ us hl => match us, hl with | [_, _, _], _ => rfl
  have F15 := fun_mk (st := sCanT) l15 c15 k15
  have b15 := F15.binds (ps := ["book", "rows", "reader", "work"]) fun _ _ _ _ _ _ us hl => match us, hl with | [_, _, _, _], _ => rfl
  have F16 := fun_mk (st := sTakers) l16 c16 k16
  have b16 := F16.binds (ps := ["book", "rows", "absent", "work"]) fun _ _ _ _ _ _ us hl => match us, hl with | [_, _, _, _], _ => rfl
  have F17 := fun_mk (st := sLoose) l17 c17 k17
  have b17 := F17.binds (ps := ["kept", "rows", "reader"]) fun _ _ _ _ _ _ us hl => match us, hl with | [_, _, _], _ => rfl
  have F18 := fun_mk (st := sStep) l18 c18 k18
  have b18 := F18.binds (ps := ["book", "kept", "rows", "absent", "work"]) fun _ _ _ _ _ _ us hl => match us, hl with | [_, _, _, _, _], _ => rfl
  have F19 := fun_mk (st := sIsSetM) l19 c19 k19
  have b19 := F19.binds (ps := ["value", "many"]) fun _ _ _ _ _ _ us hl => match us, hl with | [_, _], _ => rfl
  have F20 := fun_mk (st := sLinkM) l20 c20 k20
  have b20 := F20.binds (ps := ["book", "kept", "rows", "absent", "work", "value"]) fun _ _ _ _ _ _ us hl => match us, hl with | [_, _, _, _, _, _], _ => rfl
  have F21 := fun_mk (st := sChainM) l21 c21 k21
  have b21 := F21.binds (ps := ["book", "kept", "rows", "absent", "work", "value"]) fun _ _ _ _ _ _ us hl => match us, hl with | [_, _, _, _, _, _], _ => rfl
  have F22 := fun_mk (st := sBarred) l22 c22 k22
  have b22 := F22.binds (ps := ["book", "kept", "rows", "reader", "works"]) fun _ _ _ _ _ _ us hl => match us, hl with | [_, _, _, _, _], _ => rfl
  have F23 := fun_mk (st := sClosedM) l23 c23 k23
  have b23 := F23.binds (ps := ["book", "kept", "rows", "absent", "value"]) fun _ _ _ _ _ _ us hl => match us, hl with | [_, _, _, _, _], _ => rfl
  have F24 := fun_mk (st := sLPrs) l24 c24 k24
  have b24 := F24.binds (ps := ["readers", "absent"]) fun _ _ _ _ _ _ us hl => match us, hl with | [_, _], _ => rfl
  have F25 := fun_mk (st := sLSets) l25 c25 k25
  have b25 := F25.binds (ps := ["things"]) fun _ _ _ _ _ _ us hl => match us, hl with | [_], _ => rfl
  have F26 := fun_mk (st := sLSetM) l26 c26 k26
  have b26 := F26.binds (ps := ["value", "works"]) fun _ _ _ _ _ _ us hl => match us, hl with | [_, _], _ => rfl
  have F27 := fun_mk (st := sLNumA) l27 c27 k27
  have b27 := F27.binds (ps := ["value", "many"]) fun _ _ _ _ _ _ us hl => match us, hl with | [_, _], _ => rfl
  have F28 := fun_mk (st := sLinksM) l28 c28 k28
  have b28 := F28.binds (ps := ["readers", "kept", "rows", "absent", "work", "value"]) fun _ _ _ _ _ _ us hl => match us, hl with | [_, _, _, _, _, _], _ => rfl
  have F29 := fun_mk (st := sShutM) l29 c29 k29
  have b29 := F29.binds (ps := ["readers", "kept", "rows", "absent", "value", "works"]) fun _ _ _ _ _ _ us hl => match us, hl with | [_, _, _, _, _, _], _ => rfl
  have F30 := fun_mk (st := sGone) l30 c30 k30
  have b30 := F30.binds (ps := ["feed", "readers"]) fun _ _ _ _ _ _ us hl => match us, hl with | [_, _], _ => rfl
  have F31 := fun_mk (st := sLarger) l31 c31 k31
  have b31 := F31.binds (ps := ["feed", "readers", "kept", "absent"]) fun _ _ _ _ _ _ us hl => match us, hl with | [_, _, _, _], _ => rfl
  have F32 := fun_mk (st := sState) l32 c32 k32
  have b32 := F32.binds (ps := ["feed", "readers"]) fun _ _ _ _ _ _ us hl => match us, hl with | [_, _], _ => rfl
  have F33 := fun_mk (st := sLWalk) l33 c33 k33
  have b33 := F33.binds (ps := ["feed", "readers", "kept", "rows", "absent", "work"]) fun _ _ _ _ _ _ us hl => match us, hl with | [_, _, _, _, _, _], _ => rfl
  have F34 := fun_mk (st := sNearC) l34 c34 k34
  have b34 := F34.binds (ps := ["feed", "readers", "links", "works"]) fun _ _ _ _ _ _ us hl => match us, hl with | [_, _, _, _], _ => rfl
  have F35 := fun_mk (st := sNearS) l35 c35 k35
  have b35 := F35.binds (ps := ["feed", "works", "value"]) fun _ _ _ _ _ _ us hl => match us, hl with | [_, _, _], _ => rfl
  have F36 := fun_mk (st := sLaw) l36 c36 k36
  have b36 := F36.binds (ps := ["script"]) fun _ _ _ _ _ _ us hl => match us, hl with | [_], _ => rfl
  have Fm1 := fun_mk (st := sBkInit) lm1 cm1 km1
  have bm1 := Fm1.binds (ps := ["self", "demands", "readers"]) fun _ _ _ _ _ _ us hl => match us, hl with | [_, _, _], _ => rfl
  have Fm2 := fun_mk (st := sBkDem) lm2 cm2 km2
  have bm2 := Fm2.binds (ps := ["self"]) fun _ _ _ _ _ _ us hl => match us, hl with | [_], _ => rfl
  have Fm3 := fun_mk (st := sBkRd) lm3 cm3 km3
  have bm3 := Fm3.binds (ps := ["self"]) fun _ _ _ _ _ _ us hl => match us, hl with | [_], _ => rfl
  have Fm4 := fun_mk (st := sBkEq) lm4 cm4 km4
  have bm4 := Fm4.binds (ps := ["self", "other"]) fun _ _ _ _ _ _ us hl => match us, hl with | [_, _], _ => rfl
  have Fm5 := fun_mk (st := sLenB) lm5 cm5 km5
  have bm5 := Fm5.binds (ps := ["self"]) fun _ _ _ _ _ _ us hl => match us, hl with | [_], _ => rfl
  have B : Bi mg := ⟨PySem.W.mg_none_of X G z0, PySem.W.mg_none_of X G z1, PySem.W.mg_none_of X G z2, PySem.W.mg_none_of X G z3, PySem.W.mg_none_of X G z4, PySem.W.mg_none_of X G z5, PySem.W.mg_none_of X G z6, PySem.W.mg_none_of X G z7, PySem.W.mg_none_of X G z8, PySem.W.mg_none_of X G z9, PySem.W.mg_none_of X G z10, PySem.W.mg_none_of X G z11, PySem.W.mg_none_of X G z12, PySem.W.mg_none_of X G z13, PySem.W.mg_none_of X G z14, PySem.W.mg_none_of X G z15⟩
  have L : Low K mg := ⟨B, ⟨_, _, F6, b6, PySem.W.mg_of X G a6⟩, ⟨_, _, F7, b7, PySem.W.mg_of X G a7⟩, ⟨_, _, F8, b8, PySem.W.mg_of X G a8⟩, ⟨_, _, F9, b9, PySem.W.mg_of X G a9⟩, ⟨_, _, F10, b10, PySem.W.mg_of X G a10⟩, ⟨_, _, F11, b11, PySem.W.mg_of X G a11⟩, ⟨_, _, F12, b12, PySem.W.mg_of X G a12⟩⟩
  have V1 : Vals1 K mg := ⟨B, ⟨_, PySem.W.mg_of X G g0x⟩, ⟨_, PySem.W.mg_of X G g1x⟩, ⟨_, PySem.W.mg_of X G g2x⟩, ⟨_, _, F1, b1, PySem.W.mg_of X G a1⟩, ⟨_, _, F2, b2, PySem.W.mg_of X G a2⟩, ⟨_, _, F3, b3, PySem.W.mg_of X G a3⟩, ⟨_, _, F4, b4, PySem.W.mg_of X G a4⟩, ⟨_, _, F5, b5, PySem.W.mg_of X G a5⟩⟩
  have cl : Cls K C := ⟨pg, hd, po, sa⟩
  have TB : BookTxt K mg C := ⟨cl, nD, nR, PySem.W.mg_of X G aC, ⟨_, _, Fm1, bm1, ⟨mk, am1, im1, kc⟩⟩, ⟨_, _, Fm2, bm2, ⟨am2, im2, km2⟩⟩, ⟨_, _, Fm3, bm3, ⟨am3, im3, km3⟩⟩, ⟨_, _, Fm4, bm4, ⟨am4, im4, km4⟩⟩, ⟨cl, ha, hn, htk, hm, me⟩, by simp [PySem.W.notFirst]⟩
  have N : NoBook K C := by
    intro T hT
    simp only [List.mem_cons, List.not_mem_nil, or_false] at hT
    rcases hT with rfl | rfl | rfl | rfl | rfl | rfl | rfl
    · exact ⟨t0, notF u0⟩
    · exact ⟨t1, notF u1⟩
    · exact ⟨t2, notF u2⟩
    · exact ⟨t3, notF u3⟩
    · exact ⟨t4, notF u4⟩
    · exact ⟨t5, notF u5⟩
    · exact ⟨t6, notF u6⟩
  exact ⟨PySem.W.fnOf "law" "law" (defArgs sLaw) (defBody sLaw) (defScope sLaw) .none kV36 dc36 pm36 an36 cd36 ct36, fun s v => .of_eq rfl, fun base _ _ hb => ok_law F36 (top11_of L V1 TB N ⟨_, _, Fm5, bm5, ⟨am5, im5, km5⟩⟩ (PySem.W.mg_none_of X G xany) (PySem.W.mg_none_of X G xset) ⟨_, _, F13, b13, PySem.W.mg_of X G a13⟩ ⟨_, _, F14, b14, PySem.W.mg_of X G a14⟩ ⟨_, _, F15, b15, PySem.W.mg_of X G a15⟩ ⟨_, _, F16, b16, PySem.W.mg_of X G a16⟩ ⟨_, _, F17, b17, PySem.W.mg_of X G a17⟩ ⟨_, _, F18, b18, PySem.W.mg_of X G a18⟩ ⟨_, _, F19, b19, PySem.W.mg_of X G a19⟩ ⟨_, _, F20, b20, PySem.W.mg_of X G a20⟩ ⟨_, _, F21, b21, PySem.W.mg_of X G a21⟩ ⟨_, _, F22, b22, PySem.W.mg_of X G a22⟩ ⟨_, _, F23, b23, PySem.W.mg_of X G a23⟩ ⟨_, _, F24, b24, PySem.W.mg_of X G a24⟩ ⟨_, _, F25, b25, PySem.W.mg_of X G a25⟩ ⟨_, _, F26, b26, PySem.W.mg_of X G a26⟩ ⟨_, _, F27, b27, PySem.W.mg_of X G a27⟩ ⟨_, _, F28, b28, PySem.W.mg_of X G a28⟩ ⟨_, _, F29, b29, PySem.W.mg_of X G a29⟩ ⟨_, _, F30, b30, PySem.W.mg_of X G a30⟩ ⟨_, _, F31, b31, PySem.W.mg_of X G a31⟩ ⟨_, _, F32, b32, PySem.W.mg_of X G a32⟩ ⟨_, _, F33, b33, PySem.W.mg_of X G a33⟩ ⟨_, _, F34, b34, PySem.W.mg_of X G a34⟩ ⟨_, _, F35, b35, PySem.W.mg_of X G a35⟩) hb⟩
end Ew
open PySem PySem.W PyProof.Rows in
set_option maxRecDepth 100000 in
set_option maxHeartbeats 0 in
theorem PySem.Challenge.cw_eachworkread_k11_chains_and_closed_sets_holds : PySem.Challenge.rw_eachworkread_k11_chains_and_closed_sets.Holds := by
  w_on; o_law; k_head; (case hw => w_witness2)
  k_fill
  refine Ew.walk_ofG2 (l := PySem.Challenge.rw_eachworkread_k11_chains_and_closed_sets) (n := 63) (k := 6) (x := "script") (sp := fun w => Ew.spLaw _) rfl (by decide) rfl ⟨rfl, by decide, by decide⟩ (by decide +kernel) (fun w h Y => PySem.W.kIn_of Y) ?F (fun _ _ a ns hl hS => ⟨a, ns, rfl, hS, hl, fun _ => rfl⟩)
  case F =>
    intro w mg fa h KX G hmg
    refine' Ew.all_mk KX G hmg ?a1 ?l1 ?c1 ?k1 ?a2 ?l2 ?c2 ?k2 ?a3 ?l3 ?c3 ?k3 ?a4 ?l4 ?c4 ?k4 ?a5 ?l5 ?c5 ?k5 ?a6 ?l6 ?c6 ?k6 ?a7 ?l7 ?c7 ?k7 ?a8 ?l8 ?c8 ?k8 ?a9 ?l9 ?c9 ?k9 ?a10 ?l10 ?c10 ?k10 ?a11 ?l11 ?c11 ?k11 ?a12 ?l12 ?c12 ?k12 ?a13 ?l13 ?c13 ?k13 ?a14 ?l14 ?c14 ?k14 ?a15 ?l15 ?c15 ?k15 ?a16 ?l16 ?c16 ?k16 ?a17 ?l17 ?c17 ?k17 ?a18 ?l18 ?c18 ?k18 ?a19 ?l19 ?c19 ?k19 ?a20 ?l20 ?c20 ?k20 ?a21 ?l21 ?c21 ?k21 ?a22 ?l22 ?c22 ?k22 ?a23 ?l23 ?c23 ?k23 ?a24 ?l24 ?c24 ?k24 ?a25 ?l25 ?c25 ?k25 ?a26 ?l26 ?c26 ?k26 ?a27 ?l27 ?c27 ?k27 ?a28 ?l28 ?c28 ?k28 ?a29 ?l29 ?c29 ?k29 ?a30 ?l30 ?c30 ?k30 ?a31 ?l31 ?c31 ?k31 ?a32 ?l32 ?c32 ?k32 ?a33 ?l33 ?c33 ?k33 ?a34 ?l34 ?c34 ?k34 ?a35 ?l35 ?c35 ?k35 ?a36 ?l36 ?c36 ?k36 ?aC ?am1 ?im1 ?lm1 ?cm1 ?km1 ?am2 ?im2 ?lm2 ?cm2 ?km2 ?am3 ?im3 ?lm3 ?cm3 ?km3 ?am4 ?im4 ?lm4 ?cm4 ?km4 ?am5 ?im5 ?lm5 ?cm5 ?km5 ?pg ?hd ?po ?sa ?mk ?kc ?nD ?nR ?ha ?hn ?htk ?hm ?me ?t0 ?u0 ?t1 ?u1 ?t2 ?u2 ?t3 ?u3 ?t4 ?u4 ?t5 ?u5 ?t6 ?u6 ?xany ?xset ?z0 ?z1 ?z2 ?z3 ?z4 ?z5 ?z6 ?z7 ?z8 ?z9 ?z10 ?z11 ?z12 ?z13 ?z14 ?z15 ?g0x ?g1x ?g2x
    (case a1 => k_is)
    (case l1 => k_is)
    (case c1 => k_is)
    (case k1 => k_is)
    (case a2 => k_is)
    (case l2 => k_is)
    (case c2 => k_is)
    (case k2 => k_is)
    (case a3 => k_is)
    (case l3 => k_is)
    (case c3 => k_is)
    (case k3 => k_is)
    (case a4 => k_is)
    (case l4 => k_is)
    (case c4 => k_is)
    (case k4 => k_is)
    (case a5 => k_is)
    (case l5 => k_is)
    (case c5 => k_is)
    (case k5 => k_is)
    (case a6 => k_is)
    (case l6 => k_is)
    (case c6 => k_is)
    (case k6 => k_is)
    (case a7 => k_is)
    (case l7 => k_is)
    (case c7 => k_is)
    (case k7 => k_is)
    (case a8 => k_is)
    (case l8 => k_is)
    (case c8 => k_is)
    (case k8 => k_is)
    (case a9 => k_is)
    (case l9 => k_is)
    (case c9 => k_is)
    (case k9 => k_is)
    (case a10 => k_is)
    (case l10 => k_is)
    (case c10 => k_is)
    (case k10 => k_is)
    (case a11 => k_is)
    (case l11 => k_is)
    (case c11 => k_is)
    (case k11 => k_is)
    (case a12 => k_is)
    (case l12 => k_is)
    (case c12 => k_is)
    (case k12 => k_is)
    (case a13 => k_is)
    (case l13 => k_is)
    (case c13 => k_is)
    (case k13 => k_is)
    (case a14 => k_is)
    (case l14 => k_is)
    (case c14 => k_is)
    (case k14 => k_is)
    (case a15 => k_is)
    (case l15 => k_is)
    (case c15 => k_is)
    (case k15 => k_is)
    (case a16 => k_is)
    (case l16 => k_is)
    (case c16 => k_is)
    (case k16 => k_is)
    (case a17 => k_is)
    (case l17 => k_is)
    (case c17 => k_is)
    (case k17 => k_is)
    (case a18 => k_is)
    (case l18 => k_is)
    (case c18 => k_is)
    (case k18 => k_is)
    (case a19 => k_is)
    (case l19 => k_is)
    (case c19 => k_is)
    (case k19 => k_is)
    (case a20 => k_is)
    (case l20 => k_is)
    (case c20 => k_is)
    (case k20 => k_is)
    (case a21 => k_is)
    (case l21 => k_is)
    (case c21 => k_is)
    (case k21 => k_is)
    (case a22 => k_is)
    (case l22 => k_is)
    (case c22 => k_is)
    (case k22 => k_is)
    (case a23 => k_is)
    (case l23 => k_is)
    (case c23 => k_is)
    (case k23 => k_is)
    (case a24 => k_is)
    (case l24 => k_is)
    (case c24 => k_is)
    (case k24 => k_is)
    (case a25 => k_is)
    (case l25 => k_is)
    (case c25 => k_is)
    (case k25 => k_is)
    (case a26 => k_is)
    (case l26 => k_is)
    (case c26 => k_is)
    (case k26 => k_is)
    (case a27 => k_is)
    (case l27 => k_is)
    (case c27 => k_is)
    (case k27 => k_is)
    (case a28 => k_is)
    (case l28 => k_is)
    (case c28 => k_is)
    (case k28 => k_is)
    (case a29 => k_is)
    (case l29 => k_is)
    (case c29 => k_is)
    (case k29 => k_is)
    (case a30 => k_is)
    (case l30 => k_is)
    (case c30 => k_is)
    (case k30 => k_is)
    (case a31 => k_is)
    (case l31 => k_is)
    (case c31 => k_is)
    (case k31 => k_is)
    (case a32 => k_is)
    (case l32 => k_is)
    (case c32 => k_is)
    (case k32 => k_is)
    (case a33 => k_is)
    (case l33 => k_is)
    (case c33 => k_is)
    (case k33 => k_is)
    (case a34 => k_is)
    (case l34 => k_is)
    (case c34 => k_is)
    (case k34 => k_is)
    (case a35 => k_is)
    (case l35 => k_is)
    (case c35 => k_is)
    (case k35 => k_is)
    (case a36 => k_is)
    (case l36 => k_is)
    (case c36 => k_is)
    (case k36 => k_is)
    (case aC => k_is)
    (case am1 => k_is)
    (case im1 => k_is)
    (case lm1 => k_is)
    (case cm1 => k_is)
    (case km1 => k_is)
    (case am2 => k_is)
    (case im2 => k_is)
    (case lm2 => k_is)
    (case cm2 => k_is)
    (case km2 => k_is)
    (case am3 => k_is)
    (case im3 => k_is)
    (case lm3 => k_is)
    (case cm3 => k_is)
    (case km3 => k_is)
    (case am4 => k_is)
    (case im4 => k_is)
    (case lm4 => k_is)
    (case cm4 => k_is)
    (case km4 => k_is)
    (case am5 => k_is)
    (case im5 => k_is)
    (case lm5 => k_is)
    (case cm5 => k_is)
    (case km5 => k_is)
    (case pg => k_is)
    (case hd => k_is)
    (case po => k_is)
    (case sa => k_is)
    (case mk => k_is)
    (case kc => k_is)
    (case nD => k_is)
    (case nR => k_is)
    (case ha => k_is)
    (case hn => k_is)
    (case htk => k_is)
    (case hm => k_is)
    (case me => kit_is)
    (case t0 => kit_is)
    (case u0 => k_is)
    (case t1 => kit_is)
    (case u1 => k_is)
    (case t2 => kit_is)
    (case u2 => k_is)
    (case t3 => kit_is)
    (case u3 => k_is)
    (case t4 => kit_is)
    (case u4 => k_is)
    (case t5 => kit_is)
    (case u5 => k_is)
    (case t6 => kit_is)
    (case u6 => k_is)
    (case xany => k_is)
    (case xset => k_is)
    (case z0 => k_is)
    (case z1 => k_is)
    (case z2 => k_is)
    (case z3 => k_is)
    (case z4 => k_is)
    (case z5 => k_is)
    (case z6 => k_is)
    (case z7 => k_is)
    (case z8 => k_is)
    (case z9 => k_is)
    (case z10 => k_is)
    (case z11 => k_is)
    (case z12 => k_is)
    (case z13 => k_is)
    (case z14 => k_is)
    (case z15 => k_is)
    (case g0x => k_is)
    (case g1x => k_is)
    (case g2x => k_is)
