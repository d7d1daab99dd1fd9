import PyProof.Rows.All
import Wide.All
import OpenK.AllK
import Wide.FinOn
import HandS.ForMost
import HandS.IsInst
import HandS.OwnEq
import HandS.Walk
import HandS.Codes
import HandS.RaiseMore
import HandS.Lambda
import HandS.Style
import HandS.NoneIn
import HandS.Rev
import HandS.TupAny
import PyProof.ReprRoads
import HandS.Conv
import HandS.More
import HandS.Strs
import HandS.SetFor
import HandS.TupLe
import HandS.SortKw
import HandS.FltList
import KE.DataMinKey
import HandS.ExcInit
import HandS.ExcField
import HandS.ForExc
import PyProof.FitsInt
import HandS.Deep
import HandS.ExcIs
import HandS.Defaults
import HandS.ExcValue
import KE.KExcIs
import HandS.ExcBuiltin
import HandS.Dict
import KE.KNest
import PySem.Challenge.RW_eachworkread_k32_known_good_rows
set_option Elab.async false
set_option linter.all false
set_option maxRecDepth 100000
/-! What all laws share: heaps, the feed, readers and rows as data. -/
namespace Ew
open PySem PySem.Spec PyProof.Rows L2
/-! ### what was tracked stays; tables of code objects may grow -/
/-- no table of code objects -/
def NT : HO → Prop
  | .tbl _ => False
  | _ => True
/-- the lambda's name; the table at p tells of its code objects alone -/
abbrev qLam : Str := "greatest_lack.<locals>.<lambda>"
def TabQ (H : Hp) (p : Addr) (_ : Str) : Prop := LamX.TabS H p qLam
/-- all that was tracked is as it was, but the tables: they tell what they told of -/
structure Same (H H' : Hp) : Prop where
  go : ∀ (b : Addr) (o : HO), H b = some o → NT o → H' b = some o
  un : ∀ b : Addr, H' b = none → H b = none
  tab : ∀ (p : Addr) (q : Str), TabQ H p q → TabQ H' p q
theorem Same.app {H H' : Hp} (s : Same H H') (b : Addr) (o : HO) (e : H b = some o) (h : NT o := by first | trivial | assumption) : H' b = some o := s.go b o e h
instance {H H' : Hp} : CoeFun (Same H H') fun _ => ∀ (b : Addr) (o : HO), H b = some o → (h : NT o := by first | trivial | assumption) → H' b = some o := ⟨@Same.app H H'⟩
theorem Same.of {H H' : Hp} (e : ∀ b o, H b = some o → H' b = some o) : Same H H' := by
  refine ⟨fun b o h _ => e b o h, fun b n => ?_, fun _ _ t => LamX.TabS.ext t e⟩
  cases q : H b with
  | none => rfl
  | some o => rw [e b o q] at n; cases n
theorem Same.refl (H : Hp) : Same H H := .of fun _ _ h => h
theorem Same.trans {H H1 H2 : Hp} (a : Same H H1) (b : Same H1 H2) : Same H H2 := ⟨fun c o h n => b.go c o (a.go c o h n) n, fun c n => a.un c (b.un c n), fun p q t => b.tab p q (a.tab p q t)⟩
theorem Same.free {H H' : Hp} (e : Same H H') {l : Addr} (h : H' l = Option.none) : H l = Option.none := e.un l h
theorem Same.seq {K : PySem.W.Frag} {H H' : Hp} {a : Addr} {xs : List V} (e : Same H H') (h : SqL K H a xs) : SqL K H' a xs := by
  rcases h with (h | ⟨o, h⟩) | h
  · exact .inl (.inl (e _ _ h))
  · exact .inl (.inr ⟨o, e _ _ h⟩)
  · exact .inr h
/-- an object that is no table and no code object: it may be written -/
def OwnAt (H : Hp) (p : Addr) : Prop := ∃ u, H p = some u ∧ NT u ∧ ∀ q, u ≠ LamX.CodeO p q
theorem OwnAt.lst {H : Hp} {p : Addr} {xs : List V} (h : H p = some (.lst xs)) : OwnAt H p := ⟨_, h, trivial, fun q z => by unfold LamX.CodeO at z; cases z⟩
theorem OwnAt.dK {H : Hp} {p : Addr} {xs : List (Key × V)} (h : H p = some (.dK xs)) : OwnAt H p := ⟨_, h, trivial, fun q z => by unfold LamX.CodeO at z; cases z⟩
theorem OwnAt.ins {H : Hp} {p C dx : Addr} {fs : List (Str × V)} (h : H p = some (.ins C dx fs)) : OwnAt H p := ⟨_, h, trivial, fun q z => by unfold LamX.CodeO at z; cases z⟩
theorem OwnAt.tab {H1 : Hp} {p P : Addr} {o : HO} {q : Str} (hm : OwnAt H1 p) (t : TabQ H1 P q) : TabQ (upd H1 p o) P q := by
  obtain ⟨u, hu, hn, hc⟩ := hm
  obtain ⟨ps, h1, h2, h3⟩ := t
  have nP : P ≠ p := fun w => by rw [w, hu] at h1; cases h1; exact hn
  refine ⟨ps, by rw [upd_ne nP]; exact h1, h2, fun pos cv hcv => ?_⟩
  obtain ⟨c, e1, e2⟩ := h3 pos cv hcv
  exact ⟨c, e1, by rw [upd_ne (fun w => by rw [w, hu] at e2; exact hc _ (Option.some.inj e2))]; exact e2⟩
theorem sameOwn {H H' : Hp} {D : Addr} {o : HO} (s : Same H H') (n : H D = none) (hm : OwnAt H' D := by first | exact .lst (by assumption) | exact .dK (by assumption) | exact .ins (by assumption)) : Same H (upd H' D o) := ⟨fun b u e z => by
  rw [upd_ne (ne_of_none e n)]
  exact s.go _ _ e z, fun b z => by
    by_cases hb : b = D
    · rw [hb]; exact n
    · rw [upd_ne hb] at z
      exact s.un b z, fun P q t => hm.tab (s.tab P q t)⟩
theorem tab_back {H : Hp} {p P : Addr} {xs : List V} {q : Str} (t : TabQ (upd H p (.lst xs)) P q) : TabQ H P q := by
  obtain ⟨ps, h1, h2, h3⟩ := t
  have at_ : ∀ {b : Addr} {o : HO}, upd H p (.lst xs) b = some o → o ≠ .lst xs → H b = some o := fun {b o} e n => by
    by_cases hb : b = p
    · rw [hb, upd_same] at e
      exact absurd (Option.some.inj e).symm n
    · rw [upd_ne hb] at e
      exact e
  refine ⟨ps, at_ h1 (fun z => by cases z), h2, fun pos cv hcv => ?_⟩
  obtain ⟨c, e1, e2⟩ := h3 pos cv hcv
  exact ⟨c, e1, at_ e2 (fun z => by unfold LamX.CodeO at z; cases z)⟩
/-! ### heaps -/
/-- the feed at f: two ints -/
def FeedAt (H : Hp) (f : Addr) : Prop := ∃ d s : Int, H f = some (.lst [.int d, .int s])
/-- all but the feed is as it was -/
structure Ext1 (f : Addr) (H H' : Hp) : Prop where
  go : ∀ (b : Addr) (o : HO), b ≠ f → H b = some o → (h : NT o := by first | trivial | assumption) → H' b = some o
  at_ : FeedAt H' f
  un : ∀ b : Addr, b ≠ f → H' b = none → H b = none
  tab : ∀ (p : Addr) (q : Str), TabQ H p q → TabQ H' p q
theorem tab_but {f : Addr} {H H' : Hp} (h : FeedAt H f) (e : ∀ b o, b ≠ f → H b = some o → H' b = some o) : ∀ (p : Addr) (q : Str), TabQ H p q → TabQ H' p q := fun p q t => by
  obtain ⟨d, s, z⟩ := h
  obtain ⟨ps, h1, h2, h3⟩ := t
  refine ⟨ps, e _ _ (fun w => by rw [w, z] at h1; cases h1) h1, h2, fun pos cv hc => ?_⟩
  obtain ⟨c, e1, e2⟩ := h3 pos cv hc
  exact ⟨c, e1, e _ _ (fun w => by rw [w, z] at e2; cases e2) e2⟩
theorem un_but {f : Addr} {H H' : Hp} (e : ∀ b o, b ≠ f → H b = some o → H' b = some o) : ∀ b : Addr, b ≠ f → H' b = none → H b = none := fun b hb n => by
  cases q : H b with
  | none => rfl
  | some o => rw [e b o hb q] at n; cases n
theorem Ext1.of {f : Addr} {H H' : Hp} (h : FeedAt H f) (e : ∀ b o, b ≠ f → H b = some o → H' b = some o) (h' : FeedAt H' f) : Ext1 f H H' := ⟨fun b o n z _ => e b o n z, h', un_but e, tab_but h e⟩
theorem Ext1.refl {f : Addr} {H : Hp} (h : FeedAt H f) : Ext1 f H H := .of h (fun _ _ _ e => e) h
theorem Ext1.trans {f : Addr} {H H1 H2 : Hp} (a : Ext1 f H H1) (b : Ext1 f H1 H2) : Ext1 f H H2 := ⟨fun c o n e z => b.1 c o n (a.1 c o n e z) z, b.2, fun c n z => a.un c n (b.un c n z), fun p q t => b.tab p q (a.tab p q t)⟩
theorem Ext1.feed {f : Addr} {H H' : Hp} (a : Ext1 f H H') : FeedAt H' f := a.2
theorem Ext1.put {f : Addr} {H : Hp} {d s : Int} (h : FeedAt H f) : Ext1 f H (upd H f (.lst [.int d, .int s])) := .of h (fun b o n e => by rw [upd_ne n]; exact e) ⟨d, s, upd_same⟩
theorem Ext1.new {f p : Addr} {H H1 : Hp} {o : HO} (a : Ext1 f H H1) (n : H1 p = none) : Ext1 f H (upd H1 p o) := by
  obtain ⟨d, s, e⟩ := a.2
  exact a.trans (.of a.2 (fun b u nb eb => by rw [upd_ne (ne_of_none eb n)]; exact eb) ⟨d, s, by rw [upd_ne (ne_of_none e n)]; exact e⟩)
/-- an object that was not there may be written -/
theorem Ext1.own {f p : Addr} {H H1 : Hp} {o : HO} (a : Ext1 f H H1) (n : H p = none) (nf : p ≠ f) (hm : OwnAt H1 p := by first | exact .lst (by assumption) | exact .dK (by assumption) | exact .ins (by assumption)) : Ext1 f H (upd H1 p o) := by
  obtain ⟨d, s, e⟩ := a.2
  refine ⟨fun b u nb eb z => ?_, ⟨d, s, by rw [upd_ne (Ne.symm nf)]; exact e⟩, fun b hb z => ?_, fun P q t => hm.tab (a.tab P q t)⟩
  · have : b ≠ p := fun z => by rw [z, n] at eb; cases eb
    rw [upd_ne this]
    exact a.1 b u nb eb z
  · by_cases hp : b = p
    · rw [hp, upd_same] at z; cases z
    · rw [upd_ne hp] at z; exact a.un b hb z
theorem Ext1.same {f : Addr} {H H' : Hp} (h : FeedAt H f) (s : Same H H') : Ext1 f H H' := ⟨fun b o _ e z => s.go b o e z, let ⟨d, t, e⟩ := h; ⟨d, t, s _ _ e⟩, fun b _ n => s.un b n, s.tab⟩
theorem Ext1.free {f p : Addr} {H H' : Hp} (a : Ext1 f H H') (h : H' p = none) : H p = none := by
  by_cases e : p = f
  · subst e
    obtain ⟨d, s, z⟩ := a.2
    rw [z] at h; cases h
  · exact a.un p e h
theorem FeedAt.ne {H : Hp} {f p : Addr} (h : FeedAt H f) (n : H p = none) : p ≠ f := fun e => by
  obtain ⟨d, s, z⟩ := h
  rw [e, z] at n; cases n
section
variable {K : PySem.W.Frag} {f : Addr} {H H' : Hp}
theorem Ext1.sqT {t : Addr} {xs : List V} (a : Ext1 f H H') (hf : FeedAt H f) (h : SqT K H t xs) : SqT K H' t xs := by
  obtain ⟨d, s, z⟩ := hf
  rcases h with (h | ⟨o, h⟩) | h
  · exact .inl (.inl (a.1 _ _ (fun e => by rw [e, z] at h; cases h) h))
  · exact .inl (.inr ⟨o, a.1 _ _ (fun e => by rw [e, z] at h; cases h) h⟩)
  · exact .inr h
theorem Ext1.sqL {t : Addr} {xs : List V} (a : Ext1 f H H') (nf : t ≠ f) (h : SqL K H t xs) : SqL K H' t xs := by
  rcases h with (h | ⟨o, h⟩) | h
  · exact .inl (.inl (a.1 _ _ nf h))
  · exact .inl (.inr ⟨o, a.1 _ _ nf h⟩)
  · exact .inr h
theorem sameT {t : Addr} {xs : List V} (e : Same H H') (h : SqT K H t xs) : SqT K H' t xs := by
  rcases h with (h | ⟨o, h⟩) | h
  · exact .inl (.inl (e _ _ h))
  · exact .inl (.inr ⟨o, e _ _ h⟩)
  · exact .inr h
end
theorem sameU {H : Hp} {p : Addr} {o : HO} (h : H p = none) : Same H (upd H p o) := .of fun b x e => by
  rw [upd_ne (ne_of_none e h)]
  exact e
/-! ### rows and readers -/
/-- what is true of a set, a row: ascending, of numbers from 0 below n -/
def Asc (n : Int) (r : List Int) : Prop := r.Pairwise (· < ·) ∧ ∀ x ∈ r, 0 ≤ x ∧ x < n
/-- a tuple of ints -/
def RowT (K : PySem.W.Frag) (H : Hp) (v : V) (r : List Int) : Prop := ∃ t, v = .ref t ∧ SqT K H t (r.map V.int)
/-- a reader: limit, may -/
def RdT (K : PySem.W.Frag) (H : Hp) (v : V) (r : Int × List Int) : Prop := ∃ t m, v = .ref t ∧ SqT K H t [.int r.1, .ref m] ∧ SqT K H m (r.2.map V.int)
def RdOk (n : Int) (r : Int × List Int) : Prop := 0 ≤ r.1 ∧ r.1 ≤ 6 ∧ Asc n r.2
def RowOk (r : Int × List Int) (w : List Int) : Prop := w.Pairwise (· < ·) ∧ (∀ x ∈ w, x ∈ r.2) ∧ (w.length : Int) ≤ r.1
def RdL (K : PySem.W.Frag) (H : Hp) (a : Addr) (rs : List (Int × List Int)) : Prop := ∃ vs, SqL K H a vs ∧ Paired (RdT K H) vs rs
def RowL (K : PySem.W.Frag) (H : Hp) (a : Addr) (ws : List (List Int)) : Prop := ∃ vs, SqL K H a vs ∧ Paired (RowT K H) vs ws
section
variable {K : PySem.W.Frag} {f : Addr} {H H' : Hp}
theorem RowT.ext {v : V} {r : List Int} (a : Ext1 f H H') (hf : FeedAt H f) (h : RowT K H v r) : RowT K H' v r := let ⟨t, e, q⟩ := h; ⟨t, e, a.sqT hf q⟩
theorem RdT.ext {v : V} {r : Int × List Int} (a : Ext1 f H H') (hf : FeedAt H f) (h : RdT K H v r) : RdT K H' v r := let ⟨t, m, e, q, q2⟩ := h; ⟨t, m, e, a.sqT hf q, a.sqT hf q2⟩
theorem RowT.same {v : V} {r : List Int} (a : Same H H') (h : RowT K H v r) : RowT K H' v r := let ⟨t, e, q⟩ := h; ⟨t, e, sameT a q⟩
theorem RdT.same {v : V} {r : Int × List Int} (a : Same H H') (h : RdT K H v r) : RdT K H' v r := let ⟨t, m, e, q, q2⟩ := h; ⟨t, m, e, sameT a q, sameT a q2⟩
theorem RdL.ext {p : Addr} {rs : List (Int × List Int)} (a : Ext1 f H H') (hf : FeedAt H f) (nf : p ≠ f) (h : RdL K H p rs) : RdL K H' p rs := let ⟨vs, q, r⟩ := h; ⟨vs, a.sqL nf q, L2.Paired.mapP r fun _ _ z => z.ext a hf⟩
theorem RowL.ext {p : Addr} {rs : List (List Int)} (a : Ext1 f H H') (hf : FeedAt H f) (nf : p ≠ f) (h : RowL K H p rs) : RowL K H' p rs := let ⟨vs, q, r⟩ := h; ⟨vs, a.sqL nf q, L2.Paired.mapP r fun _ _ z => z.ext a hf⟩
theorem RdL.same {p : Addr} {rs : List (Int × List Int)} (a : Same H H') (h : RdL K H p rs) : RdL K H' p rs := let ⟨vs, q, r⟩ := h; ⟨vs, a.seq q, L2.Paired.mapP r fun _ _ z => z.same a⟩
theorem RowL.same {p : Addr} {rs : List (List Int)} (a : Same H H') (h : RowL K H p rs) : RowL K H' p rs := let ⟨vs, q, r⟩ := h; ⟨vs, a.seq q, L2.Paired.mapP r fun _ _ z => z.same a⟩
end
section
variable {K : PySem.W.Frag} {H : Hp} {D : Addr} {xs : List V} {o : HO}
/-- a list is written: tuples stand -/
theorem sqT_upd {t : Addr} {ys : List V} (e : H D = some (.lst xs)) (h : SqT K H t ys) : SqT K (upd H D o) t ys := by
  rcases h with (h | ⟨o', h⟩) | h
  · exact .inl (.inl (by rw [upd_ne (fun z => by rw [z, e] at h; cases h)]; exact h))
  · exact .inl (.inr ⟨o', by rw [upd_ne (fun z => by rw [z, e] at h; cases h)]; exact h⟩)
  · exact .inr h
theorem RowT.upd {v : V} {r : List Int} (e : H D = some (.lst xs)) (h : RowT K H v r) : RowT K (upd H D o) v r := let ⟨t, a, q⟩ := h; ⟨t, a, sqT_upd e q⟩
theorem RdT.upd {v : V} {r : Int × List Int} (e : H D = some (.lst xs)) (h : RdT K H v r) : RdT K (upd H D o) v r := let ⟨t, m, a, q, q2⟩ := h; ⟨t, m, a, sqT_upd e q, sqT_upd e q2⟩
end
theorem Paired.at1 {α β : Type} {R : α → β → Prop} : ∀ {xs : List α} {ys : List β} {i : Nat} {x : α}, Paired R xs ys → xs[i]? = some x → ∃ y, ys[i]? = some y ∧ R x y
  | _, _, _, _, .nil, e => by simp at e
  | _, _, 0, _, .cons r _, e => by simp at e; subst e; exact ⟨_, rfl, r⟩
  | _, _, i + 1, x, .cons _ t, e => by
    obtain ⟨u, h1, h2⟩ := Paired.at1 (i := i) (x := x) t (by simpa using e)
    exact ⟨u, by simpa using h1, h2⟩
theorem Paired.at2 {α β : Type} {R : α → β → Prop} : ∀ {xs : List α} {ys : List β} {i : Nat} {y : β}, Paired R xs ys → ys[i]? = some y → ∃ x, xs[i]? = some x ∧ R x y
  | _, _, _, _, .nil, e => by simp at e
  | _, _, 0, _, .cons r _, e => by simp at e; subst e; exact ⟨_, rfl, r⟩
  | _, _, i + 1, x, .cons _ t, e => by
    obtain ⟨u, h1, h2⟩ := Paired.at2 (i := i) (y := x) t (by simpa using e)
    exact ⟨u, by simpa using h1, h2⟩
theorem Paired.snoc {α β : Type} {R : α → β → Prop} : ∀ {xs : List α} {ys : List β} {x : α} {y : β}, Paired R xs ys → R x y → Paired R (xs ++ [x]) (ys ++ [y])
  | _, _, _, _, .nil, h => .cons h .nil
  | _, _, _, _, .cons r t, h => .cons r (Paired.snoc t h)
theorem Paired.set' {α β : Type} {R : α → β → Prop} {x : α} {y : β} : ∀ {xs : List α} {ys : List β} (n : Nat), Paired R xs ys → R x y → Paired R (xs.set n x) (ys.set n y)
  | _, _, _, .nil, _ => .nil
  | _, _, 0, .cons _ t, h => .cons h t
  | _, _, n + 1, .cons r t, h => .cons r (Paired.set' n t h)
/-! ### what of the built-in names the text leaves as it is -/
structure Bi (mg : Str → Option Value) : Prop where
  len : mg "len" = none
  range : mg "range" = none
  list : mg "list" = none
  tuple : mg "tuple" = none
  int : mg "int" = none
  bool : mg "bool" = none
  abs : mg "abs" = none
  max : mg "max" = none
  min : mg "min" = none
  sorted : mg "sorted" = none
  enumerate : mg "enumerate" = none
  isinstance : mg "isinstance" = none
  all : mg "all" = none
  sum : mg "sum" = none
  zip : mg "zip" = none
  repr : mg "repr" = none
theorem take_more {α : Type} : ∀ {l : List α} {i : Nat} {x : α}, l[i]? = some x → l.take (i + 1) = l.take i ++ [x]
  | [], i, x, h => by simp at h
  | a :: l, 0, x, h => by
    have e : a = x := Option.some.inj h
    subst e
    rfl
  | a :: l, i + 1, x, h => by
    have ih := take_more (l := l) (i := i) (x := x) h
    show a :: l.take (i + 1) = a :: l.take i ++ [x]
    rw [ih]
    rfl
theorem szL {n : Nat} (h : n ≤ 1000000) : n ≤ sizeLine := Nat.le_trans h (by decide)
theorem szl {n : Nat} (h : n ≤ 1000000) : n < sizeLine := Nat.lt_of_le_of_lt h (by decide)
end Ew
namespace Ew
open PySem PySem.Spec PyProof.Rows L2
/-! ### the text by places -/
def top (i : Nat) : Stmt := PySem.Challenge.pw_eachworkread_k32_known_good_rows.main.body.getD i (.Pass ⟨0, 0, 0, 0⟩)
abbrev sFeed : Stmt := (top 49)
abbrev sTake : Stmt := (top 50)
abbrev sPick : Stmt := (top 51)
/-! ### promises -/
def spFeed (K : PySem.W.Frag) : Sp := fun vs H Q _ => ∃ (a : Addr) (ns : List Int) (k : Int), vs = [.ref a, .int k] ∧ SqL K H a (ns.map V.int) ∧ ns.length ≤ 63 ∧ 0 ≤ k ∧ k < 10 ∧
  ∀ H' p, Same H H' → H p = none → FeedAt H' p → Q (.ref p) H'
def spTake : Sp := fun vs H Q _ => ∃ (f : Addr) (m : Int), vs = [.ref f, .int m] ∧ FeedAt H f ∧ 0 < m ∧ m < 1000 ∧ ∀ H' r, Ext1 f H H' → 0 ≤ r → r < m → Q (.int r) H'
def spPick (K : PySem.W.Frag) : Sp := fun vs H Q _ => ∃ (f l : Addr) (xs : List V), vs = [.ref f, .ref l] ∧ FeedAt H f ∧ SqL K H l xs ∧ l ≠ f ∧ 0 < xs.length ∧ xs.length < 1000 ∧ ∀ H' v, Ext1 f H H' → v ∈ xs → Q v H'
section
variable {P : Program} {w : World} {K : PySem.W.Frag} {mg : Str → Option Value} {base : Heap}
theorem scFeed : FnScope ["script", "k", "seed", "digits"] ["script", "k"] (defScope sFeed) := ⟨rfl, rfl, rfl, by decide +kernel, rfl, by decide +kernel, by decide +kernel⟩
theorem cut_le (xs : List V) (a b : Option Int) : (cutV xs a b).length ≤ xs.length := by
  unfold cutV
  rw [List.length_take, List.length_drop]
  omega
theorem ok_feed {f : Addr} {fd : FuncData} (F : Fun K "_law_feed" "_law_feed" sFeed f fd) (B : Bi mg) : FnOk P w K mg base CX0 1 f fd ["script", "k"] (spFeed K) := by
  refine F.ok scFeed (fun vs H Q E h => ?_) (fun cdv A outer s H vs Q E hr h => ?_)
  · obtain ⟨a, ns, k, rfl, _⟩ := h
    rfl
  · obtain ⟨a, ns, k, rfl, hS, hl, h0, h10, q⟩ := h
    refine ⟨_, pss_cons (ps_set (i := 2) scFeed.nd rfl (.inl rfl)
        (pe_ix ix_list (pe_op op_cat (pe_callTy call_list_of (by rfl) B.list (by decide +kernel) (pa_cons (pe_slice sl_list (pv 0) (po_some (pv 1)) (po_some (pe_op op_add (pv 1) pe_int))) pa_nil))
          (pe_lst (pa_cons (pe_op op_add (pe_op op_mul pe_int (pv 1)) pe_int) pa_nil))) pe_int (fun _ _ => rfl)))
      (pss_cons (ps_set (i := 3) scFeed.nd rfl (.inl rfl) (pe_callB (call_max2 rfl) (by rfl) B.max (by decide +kernel) (pa_cons pe_int (pa_cons
          (pe_op op_sub (pe_callB call_abs (by rfl) B.abs (by decide +kernel) (pa_cons (pv 2) pa_nil)) (pe_op op_pow pe_int pe_int)) pa_nil))))
      (pss_one (ps_ret (pe_lst (pa_cons (pv 3) (pa_cons (pe_op op_mod (pe_callTy call_int1 (by rfl) B.int (by decide +kernel) (pa_cons
          (pe_op op_add (pe_op op_add (pe_op op_mul (pe_op op_mod (pe_callTy call_int1 (by rfl) B.int (by decide +kernel) (pa_cons (pe_callB call_abs (by rfl) B.abs (by decide +kernel) (pa_cons (pv 2) pa_nil)) pa_nil)) pe_int) pe_int)
            (pe_op op_mul pe_int (pv 1))) pe_int) pa_nil)) pe_int) pa_nil)))))), ?_⟩
    refine ⟨_, rfl, _, rfl, k, rfl, _, rfl, _, _, rfl, rfl, _, rfl, a, _, rfl, hS, fun c nc => ?_⟩
    have s1 : Same H (upd H c (.lst (cutV (ns.map V.int) (some k) (some (k + 1))))) := sameU nc
    have hc : (cutV (ns.map V.int) (some k) (some (k + 1))).length ≤ 63 := Nat.le_trans (cut_le _ _ _) (by rw [List.length_map]; exact hl)
    have hint : ∀ v ∈ cutV (ns.map V.int) (some k) (some (k + 1)), ∃ z, v = V.int z := by
      intro v hv
      unfold cutV at hv
      have := List.mem_of_mem_drop (List.mem_of_mem_take hv)
      obtain ⟨z, _, e⟩ := List.mem_map.mp this
      exact ⟨z, e.symm⟩
    generalize cutV (ns.map V.int) (some k) (some (k + 1)) = cs at *
    refine ⟨c, _, rfl, .inl (.inl (.inl upd_same)), fun l nl => ?_⟩
    refine ⟨_, rfl, 71, k, rfl, rfl, .inl ⟨by decide, by decide⟩, _, _, rfl, rfl, (by show 1 ≤ sizeLine; decide), fun m nm => ?_⟩
    have nlm : l ≠ m := fun e => by rw [e] at nm; rw [← e, upd_same] at nm; cases nm
    refine ⟨l, m, cs, _, rfl, rfl, (by rw [upd_ne nlm]; exact upd_same), upd_same, (szL (by show cs.length + 1 ≤ _; omega)), fun r nr => ?_⟩
    have sA : Same H (upd (upd (upd H c (.lst cs)) l (.lst cs)) m (.lst [V.int (71 * k + 23)])) := s1.trans ((sameU nl).trans (sameU nm))
    obtain ⟨z, hz⟩ : ∃ z, (cs ++ [V.int (71 * k + 23)])[0]? = some (V.int z) := by
      cases cs with
      | nil => exact ⟨_, rfl⟩
      | cons x t =>
        obtain ⟨z, e⟩ := hint x (by simp)
        exact ⟨z, by rw [e]; rfl⟩
    refine ⟨r, _, 0, _, rfl, rfl, .inl (.inl upd_same), atI_nat (j := 0) hz, ?_⟩
    have sB : Same H (upd (upd (upd (upd H c (.lst cs)) l (.lst cs)) m (.lst [V.int (71 * k + 23)])) r (.lst (cs ++ [V.int (71 * k + 23)]))) := sA.trans (sameU nr)
    generalize upd (upd (upd (upd H c (.lst cs)) l (.lst cs)) m (.lst [V.int (71 * k + 23)])) r (.lst (cs ++ [V.int (71 * k + 23)])) = H2 at *
    refine ⟨_, rfl, z, rfl, 10, 18, rfl, rfl, ⟨by decide, by decide, by decide⟩, _, _, rfl, rfl, _, _, rfl, ?_⟩
    refine ⟨_, rfl, _, rfl, z, rfl, .inl ⟨_, rfl, _, _, rfl, rfl, (by show (0 : Int) < 1000003; decide), _, _, rfl, rfl, .inr ⟨by decide, by decide⟩, _, rfl, 31, k, rfl, rfl, .inl ⟨by decide, by decide⟩, _, _, rfl, rfl, _, _, rfl, rfl, .inl ⟨_, rfl, _, _, rfl, rfl, (by show (0 : Int) < 1000033; decide), (by show 2 ≤ sizeLine; decide), fun p np => ?_⟩⟩⟩
    exact q _ p (sB.trans (sameU np)) (sB.free np) ⟨_, _, upd_same⟩
theorem scTake : FnScope ["feed", "many", "digit"] ["feed", "many"] (defScope sTake) := ⟨rfl, rfl, rfl, by decide +kernel, rfl, by decide +kernel, by decide +kernel⟩
theorem ok_take {f : Addr} {fd : FuncData} (F : Fun K "_law_take" "_law_take" sTake f fd) (B : Bi mg) : FnOk P w K mg base CX0 1 f fd ["feed", "many"] spTake := by
  refine F.ok scTake (fun vs H Q E h => ?_) (fun cdv A outer s H vs Q E hr h => ?_)
  · obtain ⟨a, m, rfl, _⟩ := h
    rfl
  · obtain ⟨a, m, rfl, ⟨d, z, hF⟩, m0, m1, q⟩ := h
    refine ⟨_, pss_cons (ps_if (pt_cmpR op_gt (pe_ix ix_list (pv 0) pe_int (fun _ _ => rfl)) pe_int (nomark _))
        (pss_cons (ps_set (i := 2) scTake.nd rfl (.inl rfl) (pe_op op_mod (pe_callTy call_int1 (by rfl) B.int (by decide +kernel) (pa_cons (pe_ix ix_list (pv 0) pe_int (fun _ _ => rfl)) pa_nil)) (pv 1)))
        (pss_cons (ps_asg (pe_op op_fdiv (pe_ix ix_list (pv 0) pe_int (fun _ _ => rfl)) (pv 1)) (pg_sub (pv 0) pe_int set_list)) (pss_one (ps_ret (pv 2))))) pss_nil)
      (pss_cons (ps_asg (pe_op op_mod (pe_callTy call_int1 (by rfl) B.int (by decide +kernel) (pa_cons (pe_op op_add (pe_op op_mul (pe_ix ix_list (pv 0) pe_int (fun _ _ => rfl)) pe_int) pe_int) pa_nil)) pe_int) (pg_sub (pv 0) pe_int set_list))
      (pss_one (ps_ret (pe_op op_mod (pe_callTy call_int1 (by rfl) B.int (by decide +kernel) (pa_cons (pe_op op_fdiv (pe_ix ix_list (pv 0) pe_int (fun _ _ => rfl)) pe_int) pa_nil)) (pv 1))))), ?_⟩
    refine ⟨_, rfl, a, _, 0, .int d, rfl, rfl, .inl (.inl hF), rfl, _, _, rfl, rfl, _, rfl, ite2 (fun _ => ?_) (fun _ => ?_)⟩
    · refine ⟨_, rfl, a, _, 0, .int d, rfl, rfl, .inl (.inl hF), rfl, .inl ⟨_, rfl, _, rfl, d, m, rfl, rfl, m0, ?_⟩⟩
      refine ⟨_, rfl, a, _, 0, .int d, rfl, rfl, .inl (.inl hF), rfl, _, rfl, d, m, rfl, rfl, ⟨m0, by omega⟩, _, rfl, a, _, 0, 0, rfl, rfl, hF, rfl, _, rfl, ?_⟩
      exact q _ _ (Ext1.put ⟨_, _, hF⟩) (Int.emod_nonneg _ (by omega)) (Int.emod_lt_of_pos _ m0)
    · refine ⟨_, rfl, a, _, 1, .int z, rfl, rfl, .inl (.inl hF), rfl, z, 69069, rfl, rfl, .inr ⟨by decide, by decide⟩, _, _, rfl, rfl, .inl ⟨_, rfl, _, _, rfl, rfl, (by show (0 : Int) < 4294967311; decide), _, rfl, a, _, 1, 1, rfl, rfl, hF, rfl, ?_⟩⟩
      refine ⟨_, rfl, a, _, 1, _, rfl, rfl, .inl (.inl upd_same), rfl, _, 65536, rfl, rfl, ⟨by decide, by decide⟩, .inl ⟨_, rfl, _, rfl, _, m, rfl, rfl, m0, ?_⟩⟩
      exact q _ _ (Ext1.put ⟨_, _, hF⟩) (Int.emod_nonneg _ (by omega)) (Int.emod_lt_of_pos _ m0)
theorem scPick : FnScope ["feed", "some"] ["feed", "some"] (defScope sPick) := ⟨rfl, rfl, rfl, by decide +kernel, rfl, by decide +kernel, by decide +kernel⟩
theorem ok_pick {f fT : Addr} {fd fdT : FuncData} (F : Fun K "_law_pick" "_law_pick" sPick f fd) (FT : Fun K "_law_take" "_law_take" sTake fT fdT) (bT : Binds K fdT ["feed", "many"] []) (gT : mg "_law_take" = some (.ref fT)) (B : Bi mg) : FnOk P w K mg base CX0 2 f fd ["feed", "some"] (spPick K) := by
  have GT : FnOk P w K mg base CX0 1 fT fdT ["feed", "many"] spTake := ok_take FT B
  refine F.ok scPick (fun vs H Q E h => ?_) (fun cdv A outer s H vs Q E hr h => ?_)
  · obtain ⟨a, l, xs, rfl, _⟩ := h
    rfl
  · obtain ⟨a, l, xs, rfl, hF, hL, nl, x0, x1, q⟩ := h
    refine ⟨_, pss_one (ps_ret (pe_ix ix_list (pv 1) (pe_call GT hr (by rfl) gT FT.kp bT .nil pass0 (pa_cons (pv 0) (pa_cons (pe_callB call_len_seq (by rfl) B.len PySem.boot_len (pa_cons (pv 1) pa_nil)) pa_nil))) (fun _ _ => rfl))), ?_⟩
    refine ⟨_, rfl, _, rfl, _, rfl, l, xs, rfl, .inl hL, a, _, rfl, hF, (by omega), (by omega), fun H1 r e1 r0 r1 => ?_⟩
    obtain ⟨j, rfl⟩ : ∃ j : Nat, r = (j : Int) := ⟨r.toNat, by omega⟩
    have hj : j < xs.length := by omega
    exact ⟨l, xs, (j : Int), xs[j], rfl, rfl, e1.sqL nl hL, atI_nat (by simp [hj]), q _ _ e1 (List.getElem_mem _)⟩
end
end Ew
namespace Ew
open PySem PySem.Spec PyProof.Rows L2
def spRow (K : PySem.W.Frag) : Sp := fun vs H Q _ => ∃ (f : Addr) (v : V) (r : Int × List Int), vs = [.ref f, v] ∧ FeedAt H f ∧ RdT K H v r ∧ 0 ≤ r.1 ∧ r.1 ≤ 6 ∧ r.2.Pairwise (· < ·) ∧ r.2.length ≤ 60 ∧
  ∀ H' p w, Ext1 f H H' → H p = none → H' p = some (.tup (w.map V.int)) → RowOk r w → Q (.ref p) H'
theorem perm_get {α : Type} {rs : List α} {k : Nat} (h : k < rs.length) : rs.Perm (rs[k] :: rs.eraseIdx k) := by
  induction rs generalizing k with
  | nil => simp at h
  | cons a l ih =>
    cases k with
    | zero => simp
    | succ k =>
      have h' : k < l.length := by simpa using h
      have := ih h'
      simp only [List.getElem_cons_succ, List.eraseIdx_cons_succ]
      exact ((List.Perm.cons a this).trans (List.Perm.swap _ _ _))
theorem map_eraseIdx' {α β : Type} (g : α → β) : ∀ (l : List α) (k : Nat), (l.map g).eraseIdx k = (l.eraseIdx k).map g
  | [], _ => by simp
  | a :: l, 0 => by simp
  | a :: l, k + 1 => by simp [map_eraseIdx' g l k]
theorem lt_of_le_nodup {l : List Int} (h : l.Pairwise (· ≤ ·)) (n : l.Nodup) : l.Pairwise (· < ·) := by
  have n' : l.Pairwise (· ≠ ·) := n
  have := h.and n'
  exact this.imp fun ⟨h1, h2⟩ => by omega
section
variable {P : Program} {w : World} {K : PySem.W.Frag} {mg : Str → Option Value} {base : Heap}
end
end Ew
namespace Ew
open PySem PySem.Spec PyProof.Rows L2
def RdsOk (rs : List (Int × List Int)) : Prop := ∀ r ∈ rs, 0 ≤ r.1 ∧ r.1 ≤ 6 ∧ r.2.Pairwise (· < ·) ∧ r.2.length ≤ 60
def spRows (K : PySem.W.Frag) : Sp := fun vs H Q _ => ∃ (f R ab : Addr) (rs : List (Int × List Int)) (as : List Int), vs = [.ref f, .ref R, .ref ab] ∧ FeedAt H f ∧ R ≠ f ∧ RdL K H R rs ∧ RdsOk rs ∧ rs.length ≤ 60 ∧ SqT K H ab (as.map V.int) ∧
  ∀ H' p vs ws, Ext1 f H H' → H p = none → H' p = some (.lst vs) → Paired (RowT K H') vs ws → Paired RowOk rs ws → (∀ i w, ws[i]? = some w → ((i : Nat) : Int) ∈ as → w = []) → Q (.ref p) H'
theorem flat_ints (l : List Int) : (l.map V.int).all flatV = true := by
  rw [List.all_map]
  exact List.all_eq_true.mpr fun _ _ => rfl
theorem inV_int (i : Int) (l : List Int) : inV (.int i) (l.map V.int) = decide (i ∈ l) := by
  unfold inV
  rw [List.any_map]
  induction l with
  | nil => rfl
  | cons a l ih =>
    rw [List.any_cons, ih]
    have e : ((fun y => eqV y (V.int i)) ∘ V.int) a = decide (a = i) := by
      show eqV (V.int a) (V.int i) = _
      by_cases h : a = i
      · subst h
        simp [eqV]
      · simp [eqV, h]
    rw [e]
    by_cases h : a = i
    · subst h; simp
    · have h' : ¬ i = a := fun e => h e.symm
      simp [h, h']
theorem Paired.len {α β : Type} {R : α → β → Prop} : ∀ {xs : List α} {ys : List β}, Paired R xs ys → xs.length = ys.length
  | _, _, .nil => rfl
  | _, _, .cons _ t => by simp [Paired.len t]
theorem Paired.take {α β : Type} {R : α → β → Prop} : ∀ {xs : List α} {ys : List β} (n : Nat), Paired R xs ys → Paired R (xs.take n) (ys.take n)
  | _, _, 0, _ => .nil
  | _, _, _ + 1, .nil => .nil
  | _, _, n + 1, .cons r t => .cons r (Paired.take n t)
section
variable {P : Program} {w : World} {K : PySem.W.Frag} {mg : Str → Option Value} {base : Heap}
end
end Ew
namespace Ew
open PySem PySem.Spec PyProof.Rows L2
/-- the scope of the comprehension that a def returns -/
def retScope (s : Stmt) : Scope := match defBody s with
  | [.Return (some (.ListComp _ _ sc _)) _] => sc
  | _ => { kind := .function, names := [], isGenerator := false, isCoroutine := false }
def times (ws : List (List Int)) (n : Nat) : List Int := (List.range n).map fun (k : Nat) => ((ws.filter fun r => decide (((k : Nat) : Int) ∈ r)).length : Int)
def spTimes (K : PySem.W.Frag) : Sp := fun vs H Q _ => ∃ (R : Addr) (us : List V) (ws : List (List Int)) (n : Nat), vs = [.ref R, .int n] ∧ SqL K H R us ∧ Paired (RowT K H) us ws ∧ ws.length ≤ 60 ∧ n ≤ 60 ∧
  ∀ H' p, Same H H' → H p = none → H' p = some (.lst ((times ws n).map V.int)) → Q (.ref p) H'
section
variable {P : Program} {w : World} {K : PySem.W.Frag} {mg : Str → Option Value} {base : Heap}
theorem filter_take_snoc {α : Type} (g : α → Bool) {l : List α} {i : Nat} {x : α} (h : l[i]? = some x) : (l.take (i + 1)).filter g = (l.take i).filter g ++ (if g x = true then [x] else []) := by
  rw [take_more h, List.filter_append]
  by_cases e : g x = true
  · rw [if_pos e]; simp [e]
  · rw [if_neg e]; simp [e]
theorem same_own {H H1 : Hp} {D : Addr} {o : HO} (s : Same H H1) (n : H D = none) (hm : OwnAt H1 D := by first | exact .lst (by assumption) | exact .dK (by assumption) | exact .ins (by assumption)) : Same H (upd H1 D o) := sameOwn s n hm
end
end Ew
namespace Ew
open PySem PySem.Spec PyProof.Rows L2
def RdsAt (n : Int) (rs : List (Int × List Int)) : Prop := ∀ r ∈ rs, RdOk n r
/-- the demands at A, the readers at R -/
structure BookAt (K : PySem.W.Frag) (H : Hp) (A R : Addr) (ds : List Int) (us : List V) (rs : List (Int × List Int)) : Prop where
  dem : H A = some (.lst (ds.map V.int))
  rd : H R = some (.lst us)
  rds : Paired (RdT K H) us rs
  n1 : 1 ≤ ds.length
  n6 : ds.length ≤ 6
  d6 : ∀ d ∈ ds, 0 ≤ d ∧ d ≤ 6
  r6 : rs.length ≤ 6
  ok : RdsAt ds.length rs
  ne : A ≠ R
def spBook (K : PySem.W.Frag) : Sp := fun vs H Q _ => ∃ (f : Addr) (mw mr : Int), vs = [.ref f, .int mw, .int mr] ∧ FeedAt H f ∧ 1 ≤ mw ∧ mw ≤ 6 ∧ 0 ≤ mr ∧ mr ≤ 6 ∧
  ∀ H' p A R ds us rs, Ext1 f H H' → H p = none → H A = none → H R = none → H' p = some (.lst [.ref A, .ref R]) → BookAt K H' A R ds us rs → p ≠ A → p ≠ R → ds.length ≤ mw → rs.length ≤ mr → Q (.ref p) H'
theorem mem_map_int {v : V} {l : List Int} (h : v ∈ l.map V.int) : ∃ i, v = .int i ∧ i ∈ l := by
  obtain ⟨i, h1, h2⟩ := List.mem_map.mp h
  exact ⟨i, h2.symm, h1⟩
theorem asc_len : ∀ {l : List Int} {lo n : Int}, l.Pairwise (· < ·) → (∀ x ∈ l, lo ≤ x ∧ x < n) → lo ≤ n → (l.length : Int) ≤ n - lo
  | [], lo, n, _, _, h => by simp; omega
  | x :: l, lo, n, hp, hb, h => by
    have hx := hb x (by simp)
    have hp' := List.pairwise_cons.mp hp
    have := asc_len (l := l) (lo := x + 1) (n := n) hp'.2 (fun y hy => ⟨by have := hp'.1 y hy; omega, (hb y (by simp [hy])).2⟩) (by omega)
    simp only [List.length_cons]
    omega
theorem Asc.len {n : Int} {l : List Int} (h : Asc n l) (hn : 0 ≤ n) : (l.length : Int) ≤ n := by
  have := asc_len h.1 h.2 hn
  omega
theorem rdsOk_of {n : Int} {rs : List (Int × List Int)} (h : RdsAt n rs) (h0 : 0 ≤ n) (h6 : n ≤ 6) : RdsOk rs := fun r hr => by
  obtain ⟨a, b, c⟩ := h r hr
  have := c.len h0
  exact ⟨a, b, c.1, by omega⟩
theorem times_len (ws : List (List Int)) (n : Nat) : (times ws n).length = n := by
  unfold times
  rw [List.length_map, List.length_range]
theorem times_le (ws : List (List Int)) (n : Nat) : ∀ d ∈ times ws n, 0 ≤ d ∧ d ≤ (ws.length : Int) := by
  intro d hd
  unfold times at hd
  obtain ⟨k, _, rfl⟩ := List.mem_map.mp hd
  have := List.length_filter_le (fun r => decide (((k : Nat) : Int) ∈ r)) ws
  omega
section
variable {P : Program} {w : World} {K : PySem.W.Frag} {mg : Str → Option Value} {base : Heap}
end
end Ew
namespace Ew
open PySem PySem.Spec PyProof.Rows L2
abbrev sIsInt : Stmt := (top 6)
abbrev sIsAmt : Stmt := (top 7)
abbrev sIsAsc : Stmt := (top 8)
abbrev sAreDem : Stmt := (top 13)
abbrev sIsRd : Stmt := (top 14)
def isI : V → Bool
  | .int _ => true
  | _ => false
def amt : V → Bool
  | .int i => decide (0 ≤ i) && decide (i ≤ 6)
  | _ => false
def ascV (n : Int) : Int → List V → Bool
  | _, [] => true
  | l, .int i :: r => decide (l < i) && decide (i < n) && ascV n i r
  | _, _ :: _ => false
/-- a value of a built-in type (of which what is asked about it stays) -/
def Bt (K : PySem.W.Frag) (H : Hp) (x : V) (T : String) : Prop := TyX K H x (.type T)
def spIsInt (K : PySem.W.Frag) : Sp := fun vs H Q _ => ∃ (x : V) (T : String), vs = [x] ∧ Bt K H x T ∧ Q (.bl (isI x)) H
def spIsAmt (K : PySem.W.Frag) : Sp := fun vs H Q _ => ∃ (x : V) (T : String), vs = [x] ∧ Bt K H x T ∧ Q (.bl (amt x)) H
def spIsAsc (K : PySem.W.Frag) : Sp := fun vs H Q _ => ∃ (x : V) (n : Int), vs = [x, .int n] ∧ ((∃ T, Bt K H x T ∧ T ≠ "tuple" ∧ Q (.bl false) H) ∨ ∃ t xs, x = .ref t ∧ SqT K H t xs ∧ (∀ y ∈ xs, ∃ T, Bt K H y T) ∧ Q (.bl (ascV n (-1) xs)) H)
def spAreDem (K : PySem.W.Frag) : Sp := fun vs H Q _ => ∃ (x : V), vs = [x] ∧ ((∃ T, Bt K H x T ∧ T ≠ "list" ∧ Q (.bl false) H) ∨ ∃ a xs, x = .ref a ∧ SqL K H a xs ∧ Bt K H x "list" ∧ xs.length ≤ 1000 ∧ (∀ y ∈ xs, ∃ T, Bt K H y T) ∧
  ∀ H', Same H H' → Q (.bl (decide (1 ≤ xs.length ∧ xs.length ≤ 6) && xs.all amt)) H')
def rdV (K : PySem.W.Frag) (H : Hp) (n : Int) (x : V) (b : Bool) : Prop :=
  (∃ T, Bt K H x T ∧ T ≠ "tuple" ∧ b = false) ∨ (∃ t xs, x = .ref t ∧ SqT K H t xs ∧ xs.length ≠ 2 ∧ b = false) ∨
  (∃ t y z, x = .ref t ∧ SqT K H t [y, z] ∧ (∃ T, Bt K H y T) ∧ ((∃ T, Bt K H z T ∧ T ≠ "tuple" ∧ b = false) ∨ ∃ m ys, z = .ref m ∧ SqT K H m ys ∧ (∀ u ∈ ys, ∃ T, Bt K H u T) ∧ b = (amt y && ascV n (-1) ys)))
def spIsRd (K : PySem.W.Frag) : Sp := fun vs H Q _ => ∃ (x : V) (n : Int) (b : Bool), vs = [x, .int n] ∧ rdV K H n x b ∧ Q (.bl b) H
theorem isI_of {K : PySem.W.Frag} {H : Hp} {x : V} {T : String} (h : Bt K H x T) : PySem.W.kitOne K (.type T) (.type "int") = some (decide (T = "int" ∨ T = "bool")) ∧ PySem.W.kitOne K (.type T) (.type "bool") = some (decide (T = "bool")) ∧ isI x = decide (T = "int") := by
  cases h with
  | base b => cases b <;> exact ⟨kit_ty (by decide +kernel), kit_ty (by decide +kernel), rfl⟩
  | _ => exact ⟨kit_ty (by decide +kernel), kit_ty (by decide +kernel), rfl⟩
theorem isT_of {K : PySem.W.Frag} {H : Hp} {x : V} {T : String} (h : Bt K H x T) : PySem.W.kitOne K (.type T) (.type "tuple") = some (decide (T = "tuple")) ∧ PySem.W.kitOne K (.type T) (.type "list") = some (decide (T = "list")) := by
  cases h with
  | base b => cases b <;> exact ⟨kit_ty (by decide +kernel), kit_ty (by decide +kernel)⟩
  | _ => exact ⟨kit_ty (by decide +kernel), kit_ty (by decide +kernel)⟩
theorem bt_tup {K : PySem.W.Frag} {H : Hp} {t : Addr} {xs : List V} (h : SqT K H t xs) : Bt K H (.ref t) "tuple" := by
  rcases h with (h | ⟨o, h⟩) | ⟨o, its, n, h, c, _⟩
  · exact .base (.tup h)
  · exact .fTuple h
  · exact .kTuple h c
theorem bt_lst {K : PySem.W.Frag} {H : Hp} {t : Addr} {xs : List V} (h : SqL K H t xs) : Bt K H (.ref t) "list" := by
  rcases h with (h | ⟨o, h⟩) | ⟨o, its, n, h, c, _⟩
  · exact .base (.lst h)
  · exact .base (.frz h)
  · exact .kList h c
theorem isI_int {x : V} (h : isI x = true) : ∃ i, x = .int i := by
  cases x <;> first | exact ⟨_, rfl⟩ | cases h
theorem amt_not {x : V} (h : isI x = false) : amt x = false := by
  cases x <;> first | rfl | cases h
/-- what stands of the package's small defs -/
structure Vals1 (K : PySem.W.Frag) (mg : Str → Option Value) : Prop where
  bi : Bi mg
  ga : ∃ t, mg "GREATEST_AMOUNT" = some (.int 6 t)
  mw : ∃ t, mg "MOST_WORKS" = some (.int 6 t)
  mr : ∃ t, mg "MOST_READERS" = some (.int 6 t)
  isInt : ∃ f fd, Fun K "is_integer" "is_integer" sIsInt f fd ∧ Binds K fd ["value"] [] ∧ mg "is_integer" = some (.ref f)
  isAmt : ∃ f fd, Fun K "is_amount" "is_amount" sIsAmt f fd ∧ Binds K fd ["value"] [] ∧ mg "is_amount" = some (.ref f)
  isAsc : ∃ f fd, Fun K "is_ascending" "is_ascending" sIsAsc f fd ∧ Binds K fd ["value", "many"] [] ∧ mg "is_ascending" = some (.ref f)
  areDem : ∃ f fd, Fun K "are_demands" "are_demands" sAreDem f fd ∧ Binds K fd ["value"] [] ∧ mg "are_demands" = some (.ref f)
  isRd : ∃ f fd, Fun K "is_reader" "is_reader" sIsRd f fd ∧ Binds K fd ["value", "many"] [] ∧ mg "is_reader" = some (.ref f)
section
variable {P : Program} {w : World} {K : PySem.W.Frag} {mg : Str → Option Value} {base : Heap}
theorem scIsInt : FnScope ["value"] ["value"] (defScope sIsInt) := ⟨rfl, rfl, rfl, by decide +kernel, rfl, by decide +kernel, by decide +kernel⟩
theorem ok_isInt {f : Addr} {fd : FuncData} (F : Fun K "is_integer" "is_integer" sIsInt f fd) (B : Bi mg) : FnOk P w K mg base CX0 1 f fd ["value"] (spIsInt K) := by
  refine F.ok scIsInt (fun vs H Q E h => ?_) (fun cdv A outer s H vs Q E hr h => ?_)
  · obtain ⟨x, T, rfl, _⟩ := h
    rfl
  · obtain ⟨x, T, rfl, hT, q⟩ := h
    refine ⟨_, pss_one (ps_ret (pe_and (pe_callB call_isi (by rfl) B.isinstance (by decide +kernel) (pa_cons (pv 0) (pa_cons (pe_bltn (v := .ty "int") (by rfl) B.int (by decide +kernel) rfl) pa_nil)))
      (pe_one (pe_not (pe_callB call_isi (by rfl) B.isinstance (by decide +kernel) (pa_cons (pv 0) (pa_cons (pe_bltn (v := .ty "bool") (by rfl) B.bool (by decide +kernel) rfl) pa_nil))))))), ?_⟩
    obtain ⟨k1, k2, e⟩ := isI_of hT
    refine ⟨x, rfl, x, .ty "int", _, _, _, rfl, .ty _, hT, k1, _, rfl, ?_⟩
    refine ite2 (fun c => ?_) (fun c => ?_)
    · refine ⟨x, rfl, x, .ty "bool", _, _, _, rfl, .ty _, hT, k2, _, rfl, ?_⟩
      have : (!decide (T = "bool")) = isI x := by
        rw [e]
        rcases of_decide_eq_true c with h | h
        · subst h; decide
        · subst h; decide
      rw [this]
      exact q
    · have : false = isI x := by
        rw [e]
        have h : ¬ (T = "int" ∨ T = "bool") := fun h => c (decide_eq_true h)
        exact (decide_eq_false fun h' => h (.inl h')).symm
      rw [this]
      exact q
theorem scIsAmt : FnScope ["value"] ["value"] (defScope sIsAmt) := ⟨rfl, rfl, rfl, by decide +kernel, rfl, by decide +kernel, by decide +kernel⟩
theorem ok_isAmt {f : Addr} {fd : FuncData} (F : Fun K "is_amount" "is_amount" sIsAmt f fd) (L : Vals1 K mg) : FnOk P w K mg base CX0 2 f fd ["value"] (spIsAmt K) := by
  obtain ⟨B, ⟨tg, ga⟩, _, _, ⟨fI, fdI, FI, bI, gI⟩, _⟩ := L
  have GI : FnOk P w K mg base CX0 1 fI fdI ["value"] (spIsInt K) := ok_isInt FI B
  refine F.ok scIsAmt (fun vs H Q E h => ?_) (fun cdv A outer s H vs Q E hr h => ?_)
  · obtain ⟨x, T, rfl, _⟩ := h
    rfl
  · obtain ⟨x, T, rfl, hT, q⟩ := h
    refine ⟨_, pss_one (ps_ret (pe_and (pe_call GI hr (by rfl) gI FI.kp bI .nil pass0 (pa_cons (pv 0) pa_nil)) (pe_one (pe_chain op_le op_le pe_int (pv 0) (pe_glob (v := .int 6) (by rfl) ga ⟨_, rfl⟩))))), ?_⟩
    refine ⟨x, rfl, x, T, rfl, hT, _, rfl, ?_⟩
    refine ite2 (fun c => ?_) (fun c => ?_)
    · obtain ⟨i, rfl⟩ := isI_int c
      refine ⟨_, rfl, _, _, rfl, rfl, _, rfl, ite2 (fun c => ?_) (fun c => ?_)⟩
      · refine ⟨_, _, rfl, rfl, ?_⟩
        have : amt (.int i) = decide (i ≤ 6) := by show (_ && _) = _; rw [c]; rfl
        rw [this] at q
        exact q
      · have : amt (.int i) = false := by show (_ && _) = _; rw [Bool.eq_false_iff.mpr c]; rfl
        rw [this] at q
        exact q
    · rw [amt_not (Bool.eq_false_iff.mpr c)] at q
      exact q
theorem scIsAsc : FnScope ["value", "many", "last", "item"] ["value", "many"] (defScope sIsAsc) := ⟨rfl, rfl, rfl, by decide +kernel, rfl, by decide +kernel, by decide +kernel⟩
theorem ok_isAsc {f : Addr} {fd : FuncData} (F : Fun K "is_ascending" "is_ascending" sIsAsc f fd) (L : Vals1 K mg) : FnOk P w K mg base CX0 2 f fd ["value", "many"] (spIsAsc K) := by
  obtain ⟨B, _, _, _, ⟨fI, fdI, FI, bI, gI⟩, _⟩ := L
  have GI : FnOk P w K mg base CX0 1 fI fdI ["value"] (spIsInt K) := ok_isInt FI B
  refine F.ok scIsAsc (fun vs H Q E h => ?_) (fun cdv A outer s H vs Q E hr h => ?_)
  · obtain ⟨x, n, rfl, _⟩ := h
    rfl
  · obtain ⟨x, n, rfl, h⟩ := h
    refine ⟨_, pss_cons (ps_if (pt_not (pt_val (pe_callB call_isi (by rfl) B.isinstance (by decide +kernel) (pa_cons (pv 0) (pa_cons (pe_bltn (v := .ty "tuple") (by rfl) B.tuple (by decide +kernel) rfl) pa_nil))))) (pss_one (ps_ret pe_bl)) pss_nil)
      (pss_cons (ps_set (i := 2) scIsAsc.nd rfl (.inl rfl) (pe_un un_neg pe_int))
      (pss_cons (ps_for PassesOwn.never rfl (pi_tup (pv 0)) (pg_name (i := 3) scIsAsc.nd rfl (.inl rfl))
        (pss_cons (ps_if (PW.pt (pw_or (pt_not (pt_val (pe_call GI hr (by rfl) gI FI.kp bI .nil pass0 (pa_cons (pv 3) pa_nil)))) (pw_or1 (pt_not (pt_chain op_lt op_lt (pv 2) (pv 3) (pv 1)))))) (pss_one (ps_ret pe_bl)) pss_nil)
          (pss_one (ps_set (i := 2) scIsAsc.nd rfl (.inl rfl) (pv 3)))))
      (pss_one (ps_ret pe_bl)))), ?_⟩
    rcases h with ⟨T, hT, nT, q⟩ | ⟨t, xs, rfl, hS, hty, q⟩
    · obtain ⟨k1, _⟩ := isT_of hT
      rw [decide_eq_false nT] at k1
      refine ⟨x, rfl, x, .ty "tuple", _, _, _, rfl, .ty _, hT, k1, _, rfl, ?_⟩
      exact q
    · obtain ⟨k1, _⟩ := isT_of (bt_tup hS)
      refine ⟨_, rfl, _, .ty "tuple", _, _, _, rfl, .ty _, bt_tup hS, k1, _, rfl, ?_⟩
      show (if (!decide ("tuple" = "tuple")) = true then _ else _)
      refine iteNS rfl ?_
      refine ⟨1, rfl, ?_⟩
      refine ⟨_, rfl, t, rfl, ⟨_, hS⟩, for_tup (K := K) (a := t) (xs := xs) (fun i σ H' => ∃ (l : Int) (y : Option V), σ = [some (.ref t), some (.int n), some (.int l), y] ∧ H' = H ∧ ascV n (-1) xs = ascV n l (xs.drop i)) ⟨-1, none, rfl, rfl, rfl⟩ (fun i σ H' _ ⟨_, _, _, e, _⟩ => e ▸ hS) ?_ ?_⟩
      · rintro i x σ H' hx ⟨l, y, rfl, rfl, e⟩
        obtain ⟨T, hT⟩ := hty x (List.mem_of_getElem? hx)
        have hd : xs.drop i = x :: xs.drop (i + 1) := by
          have hl := (List.getElem?_eq_some_iff.mp hx)
          rw [List.drop_eq_getElem_cons hl.1, hl.2]
        rw [hd] at e
        refine ⟨_, rfl, _, T, rfl, hT, _, rfl, ?_⟩
        cases hi : isI x with
        | false =>
          have : ascV n l (x :: xs.drop (i + 1)) = false := by cases x <;> first | rfl | cases hi
          rw [e, this] at q
          exact q
        | true =>
          obtain ⟨z, rfl⟩ := isI_int hi
          refine ⟨_, rfl, _, rfl, _, _, rfl, rfl, _, rfl, ite2 (fun c => ?_) (fun c => ?_)⟩
          · refine ⟨_, rfl, _, _, rfl, rfl, _, rfl, ?_⟩
            show (if (!decide (z < n)) = true then _ else _)
            cases c2 : decide (z < n) with
            | true =>
              refine iteF ?_
              refine ⟨_, rfl, z, _, rfl, rfl, ?_⟩
              rw [e]
              show (decide (l < z) && decide (z < n) && _) = _
              rw [c, c2]
              rfl
            | false =>
              refine iteT ?_
              have : ascV n l (V.int z :: xs.drop (i + 1)) = false := by
                show (decide (l < z) && decide (z < n) && _) = _
                rw [c2, Bool.and_false]
                rfl
              rw [e, this] at q
              exact q
          · refine ⟨_, rfl, ?_⟩
            have : ascV n l (V.int z :: xs.drop (i + 1)) = false := by
              show (decide (l < z) && decide (z < n) && _) = _
              rw [Bool.eq_false_iff.mpr c]
              rfl
            rw [e, this] at q
            exact q
      · rintro σ H' ⟨l, y, rfl, rfl, e⟩
        rw [List.drop_length] at e
        have e' : ascV n (-1) xs = true := e
        rw [e'] at q
        exact q
end
end Ew
namespace Ew
open PySem PySem.Spec PyProof.Rows L2
section
variable {P : Program} {w : World} {K : PySem.W.Frag} {mg : Str → Option Value} {base : Heap}
theorem Bt.same {H H' : Hp} {x : V} {T : String} (s : Same H H') (h : Bt K H x T) : Bt K H' x T := by
  cases h with
  | base b =>
    cases b with
    | non => exact .base .non
    | bl => exact .base (.bl _)
    | int => exact .base (.int _)
    | str => exact .base (.str _)
    | flt => exact .base (.flt _)
    | lst e => exact .base (.lst (s _ _ e))
    | frz e => exact .base (.frz (s _ _ e))
    | tup e => exact .base (.tup (s _ _ e))
    | dK e => exact .base (.dK (s _ _ e))
    | dT e => exact .base (.dT (s _ _ e))
  | byt => exact .byt _
  | set e => exact .set (s _ _ e)
  | kList e c => exact .kList e c
  | kTuple e c => exact .kTuple e c
  | kDict e c => exact .kDict e c
  | fTuple e => exact .fTuple (s _ _ e)
  | fDict e => exact .fDict (s _ _ e)
theorem scAreDem : FnScope ["value", "demand"] ["value"] (defScope sAreDem) := ⟨rfl, rfl, rfl, by decide +kernel, rfl, by decide +kernel, by decide +kernel⟩
theorem ok_areDem {f : Addr} {fd : FuncData} (F : Fun K "are_demands" "are_demands" sAreDem f fd) (L : Vals1 K mg) : FnOk P w K mg base CX0 3 f fd ["value"] (spAreDem K) := by
  have L' := L
  obtain ⟨B, _, ⟨tw, mw⟩, _, _, ⟨fA, fdA, FA, bA, gA⟩, _⟩ := L'
  have GA : FnOk P w K mg base CX0 2 fA fdA ["value"] (spIsAmt K) := ok_isAmt FA L
  refine F.ok scAreDem (fun vs H Q E h => ?_) (fun cdv A outer s H vs Q E hr h => ?_)
  · obtain ⟨x, rfl, _⟩ := h
    rfl
  · obtain ⟨x, rfl, h⟩ := h
    refine ⟨_, pss_cons (ps_if (PW.pt (pw_or (pt_not (pt_val (pe_callB call_isi (by rfl) B.isinstance (by decide +kernel) (pa_cons (pv 0) (pa_cons (pe_bltn (v := .ty "list") (by rfl) B.list (by decide +kernel) rfl) pa_nil)))))
          (pw_or1 (pt_not (pt_chain op_le op_le pe_int (pe_callB call_len_seq (by rfl) B.len PySem.boot_len (pa_cons (pv 0) pa_nil)) (pe_glob (v := .int 6) (by rfl) mw ⟨_, rfl⟩)))))) (pss_one (ps_ret pe_bl)) pss_nil)
      (pss_one (ps_ret (pe_callB (cr_all rfl) (by rfl) B.all (by decide +kernel) (pa_cons
        (pe_lc (own := [("demand", 1)]) (g := gName 1) (tt := tYes) (te := tCall (spIsAmt K) [] E0 (tCons (tVar 1) tNil)) rfl scAreDem.nd (pi_list (pv 0)) (blkOk_by (own := [("demand", 1)]) (N := ["value", "demand"]) (sc := defScope sAreDem) (by decide +kernel))
          (fun _ _ _ _ _ => pg_name (i := 1) scAreDem.nd rfl (.inl rfl)) (fun _ _ _ _ _ => pts_nil) (fun _ _ _ _ _ => pe_call GA hr (by rfl) gA FA.kp bA .nil pass0 (pa_cons (pv 1) pa_nil))) pa_nil)))), ?_⟩
    rcases h with ⟨T, hT, nT, q⟩ | ⟨a, xs, rfl, hS, hB, hl, hty, q⟩
    · obtain ⟨_, k1⟩ := isT_of hT
      rw [decide_eq_false nT] at k1
      refine ⟨x, rfl, x, .ty "list", _, _, _, rfl, .ty _, hT, k1, _, rfl, ?_⟩
      exact q
    · obtain ⟨_, k1⟩ := isT_of hB
      refine ⟨_, rfl, _, .ty "list", _, _, _, rfl, .ty _, hB, k1, _, rfl, ?_⟩
      show (if (!decide ("list" = "list")) = true then _ else _)
      refine iteNS rfl ?_
      refine ⟨_, rfl, a, xs, rfl, .inl hS, _, _, rfl, rfl, _, rfl, ite2 (fun c => ?_) (fun c => ?_)⟩
      · refine ⟨_, _, rfl, rfl, _, rfl, ?_⟩
        have c1 : (1 : Int) ≤ ((xs.length : Nat) : Int) := of_decide_eq_true c
        show (if (!decide (((xs.length : Nat) : Int) ≤ 6)) = true then _ else _)
        by_cases c6 : ((xs.length : Nat) : Int) ≤ 6
        · refine iteNS c6 ?_
          refine ⟨_, rfl, a, rfl, ⟨_, hS⟩, fun D nD => ?_⟩
          refine lc_list (K := K) (a := a) (xs := xs) (fun i H' => Same H H' ∧ H' D = some (.lst (((xs.take i).map amt).map V.bl))) ⟨sameU nD, upd_same⟩ (fun i H' _ ⟨e, _⟩ => e.seq hS) ?_ ?_
          · rintro i x H1 hx ⟨s1, hD⟩
            obtain ⟨T, hT⟩ := hty x (List.mem_of_getElem? hx)
            refine ⟨rfl, ?_⟩
            dsimp only [tYes]
            refine iteT ?_
            refine ⟨_, rfl, x, T, rfl, hT.same s1, _, hD, szl (by rw [List.length_map, List.length_map, List.length_take]; omega), same_own s1 nD, ?_⟩
            rw [upd_same, take_more hx, List.map_append, List.map_append]
            rfl
          · rintro H1 ⟨s1, hD⟩
            rw [List.take_length] at hD
            refine ⟨D, _, rfl, .inl (.inl hD), ?_⟩
            have q' := q H1 s1
            have e1 : decide (1 ≤ xs.length ∧ xs.length ≤ 6) = true := decide_eq_true (by omega)
            have e2 : (xs.map amt).all id = xs.all amt := by rw [List.all_map]; rfl
            rw [e1, Bool.true_and, ← e2] at q'
            exact q'
        · rw [decide_eq_false c6]
          refine iteT ?_
          have e1 : decide (1 ≤ xs.length ∧ xs.length ≤ 6) = false := decide_eq_false (by omega)
          have q' := q H (Same.refl H)
          rw [e1] at q'
          exact q'
      · refine ⟨_, rfl, ?_⟩
        have c1 : ¬ (1 : Int) ≤ ((xs.length : Nat) : Int) := fun h => c (decide_eq_true h)
        have e1 : decide (1 ≤ xs.length ∧ xs.length ≤ 6) = false := decide_eq_false (by omega)
        have q' := q H (Same.refl H)
        rw [e1] at q'
        exact q'
theorem scIsRd : FnScope ["value", "many", "limit", "may"] ["value", "many"] (defScope sIsRd) := ⟨rfl, rfl, rfl, by decide +kernel, rfl, by decide +kernel, by decide +kernel⟩
theorem ok_isRd {f : Addr} {fd : FuncData} (F : Fun K "is_reader" "is_reader" sIsRd f fd) (L : Vals1 K mg) : FnOk P w K mg base CX0 3 f fd ["value", "many"] (spIsRd K) := by
  have L' := L
  obtain ⟨B, _, _, _, _, ⟨fA, fdA, FA, bA, gA⟩, ⟨fC, fdC, FC, bC, gC⟩, _⟩ := L'
  have GA : FnOk P w K mg base CX0 2 fA fdA ["value"] (spIsAmt K) := ok_isAmt FA L
  have GC : FnOk P w K mg base CX0 2 fC fdC ["value", "many"] (spIsAsc K) := ok_isAsc FC L
  refine F.ok scIsRd (fun vs H Q E h => ?_) (fun cdv A outer s H vs Q E hr h => ?_)
  · obtain ⟨x, n, b, rfl, _⟩ := h
    rfl
  · obtain ⟨x, n, b, rfl, h, q⟩ := h
    refine ⟨_, pss_cons (ps_if (PW.pt (pw_or (pt_not (pt_val (pe_callB call_isi (by rfl) B.isinstance (by decide +kernel) (pa_cons (pv 0) (pa_cons (pe_bltn (v := .ty "tuple") (by rfl) B.tuple (by decide +kernel) rfl) pa_nil)))))
          (pw_or1 (pt_cmpR op_ne (pe_callB call_len_seq (by rfl) B.len PySem.boot_len (pa_cons (pv 0) pa_nil)) pe_int (nomark _))))) (pss_one (ps_ret pe_bl)) pss_nil)
      (pss_cons (ps_asg (pv 0) (pg_tup (by rfl) (pgs_cons (pg_name (i := 2) scIsRd.nd rfl (.inl rfl)) (pgs_cons (pg_name (i := 3) scIsRd.nd rfl (.inl rfl)) pgs_nil))))
      (pss_one (ps_ret (pe_and (pe_call GA hr (by rfl) gA FA.kp bA .nil pass0 (pa_cons (pv 2) pa_nil)) (pe_one (pe_call GC hr (by rfl) gC FC.kp bC .nil pass0 (pa_cons (pv 3) (pa_cons (pv 1) pa_nil)))))))), ?_⟩
    rcases h with ⟨T, hT, nT, rfl⟩ | ⟨t, xs, rfl, hS, hl, rfl⟩ | ⟨t, y, z, rfl, hS, ⟨Ty, hy⟩, hz⟩
    · obtain ⟨k1, _⟩ := isT_of hT
      rw [decide_eq_false nT] at k1
      refine ⟨x, rfl, x, .ty "tuple", _, _, _, rfl, .ty _, hT, k1, _, rfl, ?_⟩
      exact q
    · obtain ⟨k1, _⟩ := isT_of (bt_tup hS)
      refine ⟨_, rfl, _, .ty "tuple", _, _, _, rfl, .ty _, bt_tup hS, k1, _, rfl, ?_⟩
      show (if (!decide ("tuple" = "tuple")) = true then _ else _)
      refine iteNS rfl ?_
      refine ⟨_, rfl, t, xs, rfl, .inr hS, rfl, _, rfl, ?_⟩
      have e : decide (V.int ((xs.length : Nat) : Int) = V.int 2) = false := decide_eq_false fun h => hl (by have := V.int.inj h; omega)
      rw [e]
      exact q
    · obtain ⟨k1, _⟩ := isT_of (bt_tup hS)
      refine ⟨_, rfl, _, .ty "tuple", _, _, _, rfl, .ty _, bt_tup hS, k1, _, rfl, ?_⟩
      show (if (!decide ("tuple" = "tuple")) = true then _ else _)
      refine iteNS rfl ?_
      refine ⟨_, rfl, t, _, rfl, .inr hS, rfl, _, rfl, ?_⟩
      refine iteF ?_
      refine ⟨_, rfl, t, _, rfl, hS, rfl, _, _, rfl, _, _, rfl, rfl, ?_⟩
      refine ⟨_, rfl, y, Ty, rfl, hy, _, rfl, ?_⟩
      rcases hz with ⟨T, hT, nT, rfl⟩ | ⟨m, ys, rfl, hM, hu, rfl⟩
      · cases amt y with
        | true => exact iteT ⟨_, rfl, _, rfl, z, _, rfl, .inl ⟨T, hT, nT, q⟩⟩
        | false => exact iteF q
      · cases ey : amt y with
        | true =>
          rw [ey] at q
          exact iteT ⟨_, rfl, _, rfl, _, _, rfl, .inr ⟨m, ys, rfl, hM, hu, q⟩⟩
        | false =>
          rw [ey] at q
          exact iteF q
end
end Ew
namespace Ew
open PySem PySem.Spec PyProof.Rows L2
abbrev sBkInit : Stmt := (inClass (top 15) 0)
abbrev sBkDem : Stmt := (inClass (top 15) 1)
abbrev sBkRd : Stmt := (inClass (top 15) 2)
abbrev sBkEq : Stmt := (inClass (top 15) 4)
theorem rd_ : ¬ (("_readers" : Str) = "_demands") := by decide +kernel
theorem dr_ : ¬ (("_demands" : Str) = "_readers") := by decide +kernel
def bf (A R : Addr) : List (Str × V) := putF "_readers" (.ref R) (putF "_demands" (.ref A) [])
theorem bf_dem (A R : Addr) : (bf A R).lookup ("_demands" : Str) = some (.ref A) := by
  unfold bf
  rw [lookup_putF, if_neg dr_, lookup_putF, if_pos rfl]
theorem bf_rd (A R : Addr) : (bf A R).lookup ("_readers" : Str) = some (.ref R) := by
  unfold bf
  rw [lookup_putF, if_pos rfl]
theorem bf_no (A R : Addr) {m : Str} (h1 : ¬ m = "_readers") (h2 : ¬ m = "_demands") : (bf A R).lookup m = none := by
  unfold bf
  rw [lookup_putF, if_neg h1, lookup_putF, if_neg h2]
  all_goals rfl
/-- a book stands at x: of ds and the readers us, which are rs; its lists are not the feed -/
def IsBook (K : PySem.W.Frag) (C f : Addr) (H : Hp) (x : Addr) (ds : List Int) (us : List V) (rs : List (Int × List Int)) : Prop :=
  ∃ dx A R, H x = some (.ins C dx (bf A R)) ∧ H A = some (.lst (ds.map V.int)) ∧ H R = some (.lst us) ∧ A ≠ f ∧ R ≠ f ∧ Paired (RdT K H) us rs
theorem IsBook.same {K : PySem.W.Frag} {C f x : Addr} {H H' : Hp} {ds us rs} (h : IsBook K C f H x ds us rs) (s : Same H H') : IsBook K C f H' x ds us rs := by
  obtain ⟨dx, A, R, h1, h2, h3, h4, h5, h6⟩ := h
  exact ⟨dx, A, R, s _ _ h1, s _ _ h2, s _ _ h3, h4, h5, L2.Paired.mapP h6 fun _ _ z => z.same s⟩
theorem IsBook.ext {K : PySem.W.Frag} {C f x : Addr} {H H' : Hp} {ds us rs} (h : IsBook K C f H x ds us rs) (hf : FeedAt H f) (s : Ext1 f H H') : IsBook K C f H' x ds us rs := by
  obtain ⟨dx, A, R, h1, h2, h3, h4, h5, h6⟩ := h
  have nx : x ≠ f := fun e => by
    obtain ⟨d, z, hz⟩ := hf
    rw [e, hz] at h1; cases h1
  exact ⟨dx, A, R, s.1 _ _ nx h1, s.1 _ _ h4 h2, s.1 _ _ h5 h3, h4, h5, L2.Paired.mapP h6 fun _ _ z => z.ext s hf⟩
/-- demands and readers as they may be -/
structure DsOk (ds : List Int) (rs : List (Int × List Int)) : Prop where
  n1 : 1 ≤ ds.length
  n6 : ds.length ≤ 6
  d6 : ∀ d ∈ ds, 0 ≤ d ∧ d ≤ 6
  r6 : rs.length ≤ 6
  ok : RdsAt ds.length rs
theorem BookAt.dsOk {K : PySem.W.Frag} {H : Hp} {A R : Addr} {ds us rs} (b : BookAt K H A R ds us rs) : DsOk ds rs := ⟨b.n1, b.n6, b.d6, b.r6, b.ok⟩
theorem bt_int {K : PySem.W.Frag} {H : Hp} (i : Int) : Bt K H (.int i) "int" := .base (.int i)
theorem ascV_ok {n : Int} : ∀ {l : List Int} {lo : Int}, l.Pairwise (· < ·) → (∀ x ∈ l, lo < x ∧ x < n) → ascV n lo (l.map V.int) = true
  | [], _, _, _ => rfl
  | x :: l, lo, hp, hb => by
    have hx := hb x (by simp)
    have hp' := List.pairwise_cons.mp hp
    show (decide (lo < x) && decide (x < n) && ascV n x (l.map V.int)) = true
    rw [decide_eq_true hx.1, decide_eq_true hx.2, ascV_ok hp'.2 fun y hy => ⟨hp'.1 y hy, (hb y (by simp [hy])).2⟩]
    rfl
theorem amt_ok {i : Int} (h : 0 ≤ i ∧ i ≤ 6) : amt (.int i) = true := by
  show (decide (0 ≤ i) && decide (i ≤ 6)) = true
  rw [decide_eq_true h.1, decide_eq_true h.2]
  rfl
theorem rdV_ok {K : PySem.W.Frag} {H : Hp} {n : Int} {v : V} {r : Int × List Int} (h : RdT K H v r) (o : RdOk n r) : rdV K H n v true := by
  obtain ⟨t, m, rfl, h1, h2⟩ := h
  refine .inr (.inr ⟨t, _, _, rfl, h1, ⟨_, bt_int _⟩, .inr ⟨m, _, rfl, h2, fun u hu => ?_, ?_⟩⟩)
  · obtain ⟨i, _, rfl⟩ := List.mem_map.mp hu
    exact ⟨_, bt_int _⟩
  · rw [amt_ok ⟨o.1, o.2.1⟩, ascV_ok o.2.2.1 fun x hx => by have := o.2.2.2 x hx; omega]
    rfl
def spBkInit (K : PySem.W.Frag) (C : Addr) : Sp := fun vs H Q _ => ∃ (x dx A R : Addr) (ds : List Int) (us : List V) (rs : List (Int × List Int)), vs = [.ref x, .ref A, .ref R] ∧ H x = some (.ins C dx []) ∧ SqL K H A (ds.map V.int) ∧ SqL K H R us ∧ Paired (RdT K H) us rs ∧ DsOk ds rs ∧
  ∀ H' A' R', (∀ H0 : Hp, Same H0 H → H0 x = none → Same H0 H') → H A' = none → H R' = none → H' x = some (.ins C dx (bf A' R')) → H' A' = some (.lst (ds.map V.int)) → H' R' = some (.lst us) → Q .non H'
structure BookTxt (K : PySem.W.Frag) (mg : Str → Option Value) (C : Addr) : Prop where
  cl : Cls K C
  nD : NoAttr K C "_demands"
  nR : NoAttr K C "_readers"
  mgC : mg "Book" = some (.ref C)
  init : ∃ f fd, Fun K "__init__" "Book.__init__" sBkInit f fd ∧ Binds K fd ["self", "demands", "readers"] [] ∧ Mk K C f
  dem : ∃ f fd, Fun K "demands" "Book.demands" sBkDem f fd ∧ Binds K fd ["self"] [] ∧ Meth K C "demands" f
  rd : ∃ f fd, Fun K "readers" "Book.readers" sBkRd f fd ∧ Binds K fd ["self"] [] ∧ Meth K C "readers" f
  eq : ∃ f fd, Fun K "__eq__" "Book.__eq__" sBkEq f fd ∧ Binds K fd ["self", "other"] [] ∧ Meth K C "__eq__" f
  ic : C8.InsC K C
  sub : PySem.W.notFirst K C (.ref C) = true
section
variable {P : Program} {w : World} {K : PySem.W.Frag} {mg : Str → Option Value} {base : Heap} {C : Addr}
theorem scBkInit : FnScope ["self", "demands", "readers", "place", "reader"] ["self", "demands", "readers"] (defScope sBkInit) := ⟨rfl, rfl, rfl, by decide +kernel, rfl, by decide +kernel, by decide +kernel⟩
theorem ok_bkInit {f : Addr} {fd : FuncData} (F : Fun K "__init__" "Book.__init__" sBkInit f fd) (L : Vals1 K mg) (T : BookTxt K mg C) : FnOk P w K mg base CX0 4 f fd ["self", "demands", "readers"] (spBkInit K C) := by
  have L' := L
  obtain ⟨B, _, _, ⟨tr, mr⟩, _, _, _, ⟨fD, fdD, FD, bD, gD⟩, ⟨fR, fdR, FR, bR, gR⟩⟩ := L'
  have GD : FnOk P w K mg base CX0 3 fD fdD ["value"] (spAreDem K) := ok_areDem FD L
  have GR : FnOk P w K mg base CX0 3 fR fdR ["value", "many"] (spIsRd K) := ok_isRd FR L
  refine F.ok scBkInit (fun vs H Q E h => ?_) (fun cdv A outer s H vs Q E hr h => ?_)
  · obtain ⟨x, dx, A, R, ds, us, rs, rfl, _⟩ := h
    rfl
  · obtain ⟨x, dx, A, R, ds, us, rs, rfl, hx, hA, hR, hP, ok, q⟩ := h
    refine ⟨_, pss_cons (ps_if (PW.pt (pw_or (pt_not (pt_val (pe_call GD hr (by rfl) gD FD.kp bD .nil pass0 (pa_cons (pv 1) pa_nil))))
          (pw_or (pt_not (pt_val (pe_callB call_isi (by rfl) B.isinstance (by decide +kernel) (pa_cons (pv 2) (pa_cons (pe_bltn (v := .ty "list") (by rfl) B.list (by decide +kernel) rfl) pa_nil)))))
          (pw_or1 (pt_cmpR op_gt (pe_callB call_len_seq (by rfl) B.len PySem.boot_len (pa_cons (pv 2) pa_nil)) (pe_glob (v := .int 6) (by rfl) mr ⟨_, rfl⟩) (nomark _)))))) (pss_one ps_never) pss_nil)
      (pss_cons (ps_for PassesOwn.never rfl (pi_enum (by rfl) B.enumerate (pa_cons (pv 2) pa_nil)) (pg_tup (by rfl) (pgs_cons (pg_name (i := 3) scBkInit.nd rfl (.inl rfl)) (pgs_cons (pg_name (i := 4) scBkInit.nd rfl (.inl rfl)) pgs_nil)))
        (pss_one (ps_if (pt_not (pt_val (pe_call GR hr (by rfl) gR FR.kp bR .nil pass0 (pa_cons (pv 4) (pa_cons (pe_callB call_len_seq (by rfl) B.len PySem.boot_len (pa_cons (pv 1) pa_nil)) pa_nil))))) (pss_one ps_never) pss_nil)))
      (pss_cons (ps_fld (pv 0) (pe_callTy call_list_of (by rfl) B.list (by decide +kernel) (pa_cons (pv 1) pa_nil)) rfl)
      (pss_one (ps_fld (pv 0) (pe_callTy call_list_of (by rfl) B.list (by decide +kernel) (pa_cons (pv 2) pa_nil)) rfl)))), ?_⟩
    refine ⟨_, rfl, _, rfl, .inr ⟨A, _, rfl, hA, bt_lst hA, by rw [List.length_map]; have := ok.n6; omega, fun y hy => ?_, fun H1 s1 => ?_⟩⟩
    · obtain ⟨i, _, rfl⟩ := List.mem_map.mp hy
      exact ⟨_, bt_int _⟩
    have e1 : (decide (1 ≤ (ds.map V.int).length ∧ (ds.map V.int).length ≤ 6) && (ds.map V.int).all amt) = true := by
      rw [List.length_map, decide_eq_true ⟨ok.n1, ok.n6⟩, Bool.true_and, List.all_map]
      exact List.all_eq_true.mpr fun d hd => amt_ok (ok.d6 d hd)
    rw [e1]
    refine ⟨true, rfl, iteF ?_⟩
    obtain ⟨_, k1⟩ := isT_of (bt_lst (s1.seq hR))
    refine ⟨_, rfl, _, .ty "list", _, _, _, rfl, .ty _, bt_lst (s1.seq hR), k1, _, rfl, ?_⟩
    show (if (!decide ("list" = "list")) = true then _ else _)
    refine iteNS rfl ?_
    have hul : us.length = rs.length := Paired.len hP
    have r6 := ok.r6
    refine ⟨_, rfl, R, us, rfl, .inl (s1.seq hR), _, _, rfl, rfl, _, rfl, ?_⟩
    show (if decide ((6 : Int) < ((us.length : Nat) : Int)) = true then _ else _)
    rw [decide_eq_false (by omega)]
    refine iteF ?_
    refine ⟨_, rfl, R, us, rfl, s1.seq hR, for_it (walk_enum (xs := us)) (fun i σ H' => ∃ y3 y4, σ = [some (.ref x), some (.ref A), some (.ref R), y3, y4] ∧ Same H H') ⟨none, none, rfl, s1⟩ (fun i σ H' _ ⟨_, _, _, e⟩ => e.seq hR) ?_ ?_⟩
    · rintro i v σ H2 H3 hi ⟨y3, y4, rfl, s2⟩ ⟨t, x1, x2, rfl, nt, rfl, f1, f2⟩
      obtain ⟨r, hr2, rd⟩ := Paired.at1 hP f2
      have sT : Same H (upd H2 t (.tup [x1, x2])) := s2.trans (sameU nt)
      refine ⟨t, _, rfl, .inl (.inl upd_same), rfl, _, _, rfl, _, _, rfl, rfl, ?_⟩
      refine ⟨_, rfl, _, rfl, A, _, rfl, .inl (sT.seq hA), x2, _, true, rfl, ?_, true, rfl, ?_⟩
      · rw [List.length_map]
        exact rdV_ok (rd.same sT) (ok.ok r (List.mem_of_getElem? hr2))
      · exact iteF ⟨_, _, rfl, sT⟩
    · rintro σ H2 ⟨y3, y4, rfl, s2⟩
      refine ⟨_, rfl, A, _, rfl, .inl (s2.seq hA), fun A' nA => ?_⟩
      have nxA : x ≠ A' := ne_of_none (s2 _ _ hx) nA
      have sA : Same H (upd H2 A' (.lst (ds.map V.int))) := s2.trans (sameU nA)
      refine ⟨_, rfl, x, C, dx, _, rfl, sA _ _ hx, T.cl, T.nD, by show 0 < 1000; decide, ?_⟩
      have st : ∀ b o, b ≠ x → H b = some o → (h : NT o := by trivial) → upd (upd H2 A' (.lst (ds.map V.int))) x (.ins C dx (putF "_demands" (.ref A') [])) b = some o := fun b o nb e z => by
        rw [upd_ne nb]; exact sA.go _ _ e z
      have hR2 : SqL K (upd (upd H2 A' (.lst (ds.map V.int))) x (.ins C dx (putF "_demands" (.ref A') []))) R us := by
        rcases hR with (h | ⟨o, h⟩) | h
        · exact .inl (.inl (st _ _ (fun e => by rw [e, hx] at h; cases h) h))
        · exact .inl (.inr ⟨o, st _ _ (fun e => by rw [e, hx] at h; cases h) h⟩)
        · exact .inr h
      refine ⟨_, rfl, R, _, rfl, .inl hR2, fun R' nR => ?_⟩
      have nxR : x ≠ R' := fun e => by rw [← e, upd_same] at nR; cases nR
      have nR1 : upd H2 A' (.lst (ds.map V.int)) R' = none := by rw [upd_ne nxR.symm] at nR; exact nR
      have nAR : A' ≠ R' := fun e => by rw [← e, upd_same] at nR1; cases nR1
      refine ⟨_, rfl, x, C, dx, putF "_demands" (.ref A') [], rfl, ?_, T.cl, T.nR, (by show 1 < 1000; decide), ?_⟩
      · rw [upd_ne nxR, upd_same]
      refine q _ A' R' (fun H0 t n => ?_) (s2.free nA) (sA.free nR1) upd_same ?_ ?_
      · exact sameOwn ((sameOwn (t.trans sA) n (.ins (sA _ _ hx))).trans (sameU nR)) n (.ins (by rw [upd_ne nxR, upd_same]))
      · rw [upd_ne nxA.symm, upd_ne nAR, upd_ne nxA.symm, upd_same]
      · rw [upd_ne nxR.symm, upd_same]
end
end Ew
namespace Ew
open PySem PySem.Spec PyProof.Rows L2
/-! ### rows and readers as data -/
section
variable {α : Type} (g : α → PyData)
theorem layAll_map (h : ∀ x, PyData.canLay0 (g x) = true) : ∀ l : List α, PyData.canLayAll0 (l.map g) = true
  | [] => rfl
  | x :: l => by
    show (PyData.canLay0 (g x) && PyData.canLayAll0 (l.map g)) = true
    rw [h x, layAll_map h l]
    rfl
theorem depAll_map {n : Nat} (h : ∀ x, PyData.depth (g x) ≤ n) : ∀ l : List α, PyData.depthAll (l.map g) ≤ n
  | [] => Nat.zero_le _
  | x :: l => by
    show max (PyData.depth (g x)) (PyData.depthAll (l.map g)) ≤ n
    exact Nat.max_le.mpr ⟨h x, depAll_map h l⟩
theorem eqvAll_inj [DecidableEq α] (h : ∀ x y, PyData.eqv (g x) (g y) = decide (x = y)) : ∀ xs ys : List α, PyData.eqvAll (xs.map g) (ys.map g) = decide (xs = ys)
  | [], [] => by simp [PyData.eqvAll]
  | [], _ :: _ => by simp [PyData.eqvAll]
  | _ :: _, [] => by simp [PyData.eqvAll]
  | x :: xs, y :: ys => by
    show (PyData.eqv (g x) (g y) && PyData.eqvAll (xs.map g) (ys.map g)) = _
    rw [h x y, eqvAll_inj h xs ys]
    by_cases e1 : x = y
    · subst e1
      by_cases e2 : xs = ys
      · subst e2; simp
      · simp [e2]
    · simp [e1]
end
def dI (l : List Int) : PyData := .list (l.map .int)
def dT (l : List Int) : PyData := .tuple (l.map .int)
def dR (r : Int × List Int) : PyData := .tuple [.int r.1, dT r.2]
def dRs (rs : List (Int × List Int)) : PyData := .list (rs.map dR)
def dWs (ws : List (List Int)) : PyData := .list (ws.map dT)
theorem eqv_int (x y : Int) : PyData.eqv (.int x) (.int y) = decide (x = y) := by
  simp [PyData.eqv]
  by_cases h : x = y <;> simp [h]
theorem eqv_dT (x y : List Int) : PyData.eqv (dT x) (dT y) = decide (x = y) := by
  show PyData.eqvAll (x.map .int) (y.map .int) = _
  exact eqvAll_inj _ eqv_int x y
theorem eqv_dI (x y : List Int) : PyData.eqv (dI x) (dI y) = decide (x = y) := by
  show PyData.eqvAll (x.map .int) (y.map .int) = _
  exact eqvAll_inj _ eqv_int x y
theorem eqv_dR (x y : Int × List Int) : PyData.eqv (dR x) (dR y) = decide (x = y) := by
  show PyData.eqvAll [.int x.1, dT x.2] [.int y.1, dT y.2] = _
  show (PyData.eqv (.int x.1) (.int y.1) && (PyData.eqv (dT x.2) (dT y.2) && true)) = _
  rw [eqv_int, eqv_dT]
  obtain ⟨a, b⟩ := x
  obtain ⟨c, d⟩ := y
  by_cases h1 : a = c <;> by_cases h2 : b = d <;> simp [h1, h2]
theorem eqv_dRs (x y : List (Int × List Int)) : PyData.eqv (dRs x) (dRs y) = decide (x = y) := by
  show PyData.eqvAll (x.map dR) (y.map dR) = _
  exact eqvAll_inj _ eqv_dR x y
theorem eqv_dWs (x y : List (List Int)) : PyData.eqv (dWs x) (dWs y) = decide (x = y) := by
  show PyData.eqvAll (x.map dT) (y.map dT) = _
  exact eqvAll_inj _ eqv_dT x y
theorem lay_dT (l : List Int) : PyData.canLay0 (dT l) = true := layAll_map PyData.int (fun _ => rfl) l
theorem dep_dT (l : List Int) : PyData.depth (dT l) ≤ 1 := Nat.succ_le_succ (depAll_map PyData.int (n := 0) (fun _ => Nat.le_refl _) l)
theorem lay_dR (r : Int × List Int) : PyData.canLay0 (dR r) = true := by
  show (true && (PyData.canLay0 (dT r.2) && true)) = true
  rw [lay_dT]
  rfl
theorem dep_dR (r : Int × List Int) : PyData.depth (dR r) ≤ 2 := by
  show max 0 (max (PyData.depth (dT r.2)) 0) + 1 ≤ 2
  have := dep_dT r.2
  omega
theorem shp {d : PyData} {n : Nat} (h1 : PyData.canLay0 d = true) (h2 : PyData.depth d ≤ n) (h3 : n ≤ 64) : SeqAt.shaped d = true := by
  unfold SeqAt.shaped
  rw [h1, decide_eq_true (Nat.le_trans h2 h3)]
  rfl
theorem shp_dT (l : List Int) : SeqAt.shaped (dT l) = true := shp (lay_dT l) (dep_dT l) (by decide)
theorem shp_dI (l : List Int) : SeqAt.shaped (dI l) = true := shp (layAll_map PyData.int (fun _ => rfl) l) (Nat.succ_le_succ (depAll_map PyData.int (n := 0) (fun _ => Nat.le_refl _) l)) (n := 1) (by decide)
theorem shp_dRs (rs : List (Int × List Int)) : SeqAt.shaped (dRs rs) = true := shp (layAll_map dR lay_dR rs) (Nat.succ_le_succ (depAll_map dR dep_dR rs)) (n := 3) (by decide)
theorem shp_dWs (ws : List (List Int)) : SeqAt.shaped (dWs ws) = true := shp (layAll_map dT lay_dT ws) (Nat.succ_le_succ (depAll_map dT dep_dT ws)) (n := 2) (by decide)
section
variable {K : PySem.W.Frag} {H : Hp}
theorem dpAll_ints : ∀ l : List Int, DpAll K H (l.map V.int) (l.map PyData.int)
  | [] => .nil
  | _ :: l => .cons (.int _) (dpAll_ints l)
theorem dpAll_map {α : Type} {R : V → α → Prop} {g : α → PyData} (h : ∀ v a, R v a → Dp K H v (g a)) : ∀ {vs : List V} {as : List α}, Paired R vs as → DpAll K H vs (as.map g)
  | _, _, .nil => .nil
  | _, _, .cons r t => .cons (h _ _ r) (dpAll_map h t)
theorem dp_dI {a : Addr} {l : List Int} (h : SqL K H a (l.map V.int)) : Dp K H (.ref a) (dI l) := .lst h (dpAll_ints l)
theorem dp_dT {v : V} {l : List Int} (h : RowT K H v l) : Dp K H v (dT l) := let ⟨_, e, q⟩ := h; e ▸ .tup q (dpAll_ints l)
theorem dp_dR {v : V} {r : Int × List Int} (h : RdT K H v r) : Dp K H v (dR r) := let ⟨_, _, e, q, q2⟩ := h; e ▸ .tup q (.cons (.int _) (.cons (dp_dT ⟨_, rfl, q2⟩) .nil))
theorem dp_dRs {a : Addr} {us : List V} {rs : List (Int × List Int)} (h : SqL K H a us) (p : Paired (RdT K H) us rs) : Dp K H (.ref a) (dRs rs) := .lst h (dpAll_map (g := dR) (fun _ _ z => dp_dR z) p)
theorem dp_dWs {a : Addr} {us : List V} {ws : List (List Int)} (h : SqL K H a us) (p : Paired (RowT K H) us ws) : Dp K H (.ref a) (dWs ws) := .lst h (dpAll_map (g := dT) (fun _ _ z => dp_dT z) p)
end
/-! ### == and != by an own __eq__, of anything -/
section
variable {prog : Program} {w : World} {A : Around} {E : Value → Shared → Prop}
/-- the type of a value, looked at -/
theorem looksT {X : Cx} {pins : List (Addr × Obj)} {σ : L2.St} {H : Hp} {s : Shared} {x : V} {u t : Value} (I : Inv X pins σ H s) (rx : RelV x u) (ty : TyX X.K H x t) : PySem.W.Looks (model X.prog X.w) s.heap (typeOf u) t := by
  have one : ∀ (a : Addr) (o : Obj), s.heap.get? a = some o → o.cls = t → PySem.W.Looks (model X.prog X.w) s.heap (typeOf (.ref a)) t := fun a o ho hc A Q E s' k q => wpAny_typeOf_ref (k _ _ ho) (by rw [hc]; exact q)
  cases ty with
  | base b =>
    cases b with
    | non => cases (show u = Value.none from rx); exact fun A Q E s' k q => wpAny_pure q
    | bl y => cases (show u = Value.bool y from rx); exact fun A Q E s' k q => wpAny_pure q
    | int i => obtain ⟨t, q⟩ := (show ∃ t, u = Value.int i t from rx); cases q; exact fun A Q E s' k q => wpAny_pure q
    | str y => obtain ⟨t, q⟩ := (show ∃ t, u = Value.str y t from rx); cases q; exact fun A Q E s' k q => wpAny_pure q
    | flt y => obtain ⟨t, q⟩ := (show ∃ t, u = Value.float y t from rx); cases q; exact fun A Q E s' k q => wpAny_pure q
    | @lst a xs ea =>
      cases (show u = Value.ref a from rx)
      obtain ⟨_, _, n, _, h1⟩ := (show ObjOk X.prog X.w H s.heap a (.lst xs) from I.hok a _ ea)
      exact one _ _ h1 rfl
    | @frz a ob xs ea =>
      cases (show u = Value.ref a from rx)
      obtain ⟨_, _, _, n, _, h1⟩ := (show ObjOk X.prog X.w H s.heap a (.frz ob (.lst xs)) from I.hok a _ ea)
      exact one _ _ h1 rfl
    | @tup a xs ea =>
      cases (show u = Value.ref a from rx)
      obtain ⟨_, _, _, o, h1, h2, _⟩ := (show ObjOk X.prog X.w H s.heap a (.tup xs) from I.hok a _ ea)
      exact one _ _ h1 h2
    | @dK a kvs ea =>
      cases (show u = Value.ref a from rx)
      obtain ⟨_, _, vs, _, o, es, ep, h1, h2, _⟩ := (show ObjOk X.prog X.w H s.heap a (.dK kvs) from I.hok a _ ea)
      exact one _ _ h1 h2.1
    | @dT a kvs ea =>
      cases (show u = Value.ref a from rx)
      obtain ⟨_, _, xs, _, o, es, ep, h1, h2, _⟩ := (show ObjOk X.prog X.w H s.heap a (.dT kvs) from I.hok a _ ea)
      exact one _ _ h1 h2.1
    | @ins a C dx fs ea cl ha hn htk hm =>
      cases (show u = Value.ref a from rx)
      obtain ⟨mA, O, _⟩ := ins_get I.hok ea
      obtain ⟨od, J, _⟩ := O.look
      exact J.type
  | byt y => obtain ⟨t, q⟩ := (show ∃ t, u = Value.bytes y t from rx); cases q; exact fun A Q E s' k q => wpAny_pure q
  | @set a S n ea =>
    cases (show u = Value.ref a from rx)
    obtain ⟨o, _, _, _, e, ex, _⟩ := I.hok a _ ea
    exact one _ _ e ex.1
  | @kList a o e c =>
    cases (show u = Value.ref a from rx)
    exact one _ _ (I.kIn a o e) c
  | @kTuple a o e c =>
    cases (show u = Value.ref a from rx)
    exact one _ _ (I.kIn a o e) c
  | @kDict a o e c =>
    cases (show u = Value.ref a from rx)
    exact one _ _ (I.kIn a o e) c
  | @fTuple a ob xs ea =>
    cases (show u = Value.ref a from rx)
    obtain ⟨_, _, _, _, o, h1, h2, _⟩ := (show ObjOk X.prog X.w H s.heap a (.frz ob (.tup xs)) from I.hok a _ ea)
    exact one _ _ h1 h2
  | @fDict a ob kvs ea =>
    cases (show u = Value.ref a from rx)
    obtain ⟨_, _, _, vs, _, o, es, ep, h1, h2, _⟩ := (show ObjOk X.prog X.w H s.heap a (.frz ob (.dK kvs)) from I.hok a _ ea)
    exact one _ _ h1 h2.1
end
/-- x == y, x an instance of the class at C with an own __eq__ whose promise is sp; y of a type that has no say -/
def rOwnEq (K : PySem.W.Frag) (C : Addr) (sp : Sp) (neg : Bool) : R2 := fun x y H Q => ∃ a dx fs t, x = .ref a ∧ H a = some (.ins C dx fs) ∧ TyX K H y t ∧ PySem.W.notFirst K C t = true ∧
  sp [x, y] H (fun v H' => ∃ b, v = .bl b ∧ Q (.bl (if neg then !b else b)) H') E0
section
variable {X : Cx} {n : Nat} {C f : Addr} {fd : FuncData} {ps : List Str} {sp : Sp}
theorem op_eqOwn (F : FnOk X.prog X.w X.K X.mg X.base CX0 n f fd ps sp) (hr : Room n X.A) (hs : PySem.W.findIn X.K (.ref C) "__eq__" = some (some (.ref f))) (hf : PySem.W.isFn X.K (.ref f) = true) (hb : Binds X.K fd ps []) :
    OpR X (compareOp .Eq) (rOwnEq X.K C sp false) := by
  intro pins s σ H x y v u Q I rx ry hq
  obtain ⟨a, dx, fs, t, rfl, ha, ty, hn, hsp⟩ := hq
  cases rx
  obtain ⟨mA, J, _⟩ := ins_get I.hok ha
  obtain ⟨od, J, _⟩ := J.look
  obtain ⟨m, hF⟩ := I.fr
  show wpAny (model X.prog X.w) X.A (richCompare .Eq (.ref a) u) (EP X pins σ Q) X.xe s
  refine PySem.W.cmp_K (op := .Eq) (tb := t) hr.units0 hF I.ok.mod.kin J (looksT I ry ty) hn hs hf ?_
  refine wpAny_mono (run_fn (vs := [V.ref a, y]) (us := [Value.ref a, u]) F hr hb .nil pass0 I (.cons rfl (.cons ry .nil)) hsp) (fun r s' hq => ?_) fun _ _ h => h
  obtain ⟨z, H', I', rz, b, ez, q⟩ := hq
  subst ez
  cases rz
  exact ⟨.bl b, H', I', rfl, q⟩
end
end Ew
namespace Ew
open PySem PySem.Spec PyProof.Rows L2
def spBkDem (K : PySem.W.Frag) (C : Addr) : Sp := fun vs H Q _ => ∃ (f x : Addr) (ds : List Int) (us : List V) (rs : List (Int × List Int)), vs = [.ref x] ∧ IsBook K C f H x ds us rs ∧ ∀ H' p, Same H H' → H p = none → H' p = some (.lst (ds.map V.int)) → Q (.ref p) H'
def spBkRd (K : PySem.W.Frag) (C : Addr) : Sp := fun vs H Q _ => ∃ (f x : Addr) (ds : List Int) (us : List V) (rs : List (Int × List Int)), vs = [.ref x] ∧ IsBook K C f H x ds us rs ∧ ∀ H' p, Same H H' → H p = none → H' p = some (.lst us) → Q (.ref p) H'
/-- no value of a built-in type is a book -/
def NoBook (K : PySem.W.Frag) (C : Addr) : Prop := ∀ T ∈ ["NoneType", "bool", "int", "str", "list", "tuple", "dict"], PySem.W.kitOne K (.type T) (.ref C) = some false ∧ PySem.W.notFirst K C (.type T) = true
def spBkEq (K : PySem.W.Frag) (C : Addr) : Sp := fun vs H Q _ => ∃ (f x : Addr) (y : V) (ds : List Int) (us : List V) (rs : List (Int × List Int)), vs = [.ref x, y] ∧ IsBook K C f H x ds us rs ∧
  ((∃ g z ds' us' rs', y = .ref z ∧ IsBook K C g H z ds' us' rs' ∧ Q (.bl (decide (ds = ds') && decide (rs = rs'))) H) ∨ (∃ T, Bt K H y T ∧ T ∈ ["NoneType", "bool", "int", "str", "list", "tuple", "dict"] ∧ Q (.bl false) H))
section
variable {P : Program} {w : World} {K : PySem.W.Frag} {mg : Str → Option Value} {base : Heap} {C : Addr}
theorem scBkDem : FnScope ["self"] ["self"] (defScope sBkDem) := ⟨rfl, rfl, rfl, by decide +kernel, rfl, by decide +kernel, by decide +kernel⟩
theorem ok_bkDem {f : Addr} {fd : FuncData} (F : Fun K "demands" "Book.demands" sBkDem f fd) (B : Bi mg) (T : BookTxt K mg C) : FnOk P w K mg base CX0 1 f fd ["self"] (spBkDem K C) := by
  refine F.ok scBkDem (fun vs H Q E h => ?_) (fun cdv A outer s H vs Q E hr h => ?_)
  · obtain ⟨f, x, ds, us, rs, rfl, _⟩ := h
    rfl
  · obtain ⟨f, x, ds, us, rs, rfl, ⟨dx, A, R, h1, h2, h3, h4, h5, h6⟩, q⟩ := h
    refine ⟨_, pss_one (ps_ret (pe_callTy call_list_of (by rfl) B.list (by decide +kernel) (pa_cons (pe_fld (pv 0) rfl) pa_nil))), ?_⟩
    refine ⟨_, rfl, x, C, dx, _, _, rfl, h1, T.cl, T.nD, bf_dem _ _, A, _, rfl, .inl (.inl (.inl h2)), fun p np => ?_⟩
    exact q _ p (sameU np) np upd_same
theorem scBkRd : FnScope ["self"] ["self"] (defScope sBkRd) := ⟨rfl, rfl, rfl, by decide +kernel, rfl, by decide +kernel, by decide +kernel⟩
theorem ok_bkRd {f : Addr} {fd : FuncData} (F : Fun K "readers" "Book.readers" sBkRd f fd) (B : Bi mg) (T : BookTxt K mg C) : FnOk P w K mg base CX0 1 f fd ["self"] (spBkRd K C) := by
  refine F.ok scBkRd (fun vs H Q E h => ?_) (fun cdv A outer s H vs Q E hr h => ?_)
  · obtain ⟨f, x, ds, us, rs, rfl, _⟩ := h
    rfl
  · obtain ⟨f, x, ds, us, rs, rfl, ⟨dx, A, R, h1, h2, h3, h4, h5, h6⟩, q⟩ := h
    refine ⟨_, pss_one (ps_ret (pe_callTy call_list_of (by rfl) B.list (by decide +kernel) (pa_cons (pe_fld (pv 0) rfl) pa_nil))), ?_⟩
    refine ⟨_, rfl, x, C, dx, _, _, rfl, h1, T.cl, T.nR, bf_rd _ _, R, _, rfl, .inl (.inl (.inl h3)), fun p np => ?_⟩
    exact q _ p (sameU np) np upd_same
theorem scBkEq : FnScope ["self", "other"] ["self", "other"] (defScope sBkEq) := ⟨rfl, rfl, rfl, by decide +kernel, rfl, by decide +kernel, by decide +kernel⟩
theorem ok_bkEq {f : Addr} {fd : FuncData} (F : Fun K "__eq__" "Book.__eq__" sBkEq f fd) (B : Bi mg) (T : BookTxt K mg C) (N : NoBook K C) : FnOk P w K mg base CX0 1 f fd ["self", "other"] (spBkEq K C) := by
  refine F.ok scBkEq (fun vs H Q E h => ?_) (fun cdv A outer s H vs Q E hr h => ?_)
  · obtain ⟨f, x, y, ds, us, rs, rfl, _⟩ := h
    rfl
  · obtain ⟨f, x, y, ds, us, rs, rfl, ⟨dx, A, R, h1, h2, h3, h4, h5, h6⟩, h⟩ := h
    refine ⟨_, pss_one (ps_ret (pe_and (pe_callB call_isi (by rfl) B.isinstance (by decide +kernel) (pa_cons (pv 1) (pa_cons (pe_glob (v := .ref C) (by rfl) T.mgC rfl) pa_nil)))
      (pe_and (pe_cmpR (op_eqD hr.units) (pe_fld (pv 0) rfl) (pe_fld (pv 1) rfl) (nomark _)) (pe_one (pe_cmpR (op_eqD hr.units) (pe_fld (pv 0) rfl) (pe_fld (pv 1) rfl) (nomark _)))))), ?_⟩
    rcases h with ⟨g, z, ds', us', rs', rfl, ⟨dx', A', R', k1, k2, k3, k4, k5, k6⟩, q⟩ | ⟨Ty, hT, hm, q⟩
    · refine ⟨_, rfl, _, .ref C, _, _, _, rfl, .own C, .base (.ins k1 T.ic.cl T.ic.ha T.ic.hn T.ic.htk T.ic.hm), T.ic.me, true, rfl, iteT ?_⟩
      refine ⟨_, rfl, x, C, dx, _, _, rfl, h1, T.cl, T.nD, bf_dem _ _, _, rfl, z, C, dx', _, _, rfl, k1, T.cl, T.nD, bf_dem _ _, _, _, dp_dI (.inl (.inl h2)), dp_dI (.inl (.inl k2)), shp_dI _, shp_dI _, _, rfl, ?_⟩
      rw [eqv_dI]
      by_cases e : ds = ds'
      · rw [decide_eq_true e]
        refine iteT ?_
        refine ⟨_, rfl, x, C, dx, _, _, rfl, h1, T.cl, T.nR, bf_rd _ _, _, rfl, z, C, dx', _, _, rfl, k1, T.cl, T.nR, bf_rd _ _, _, _, dp_dRs (.inl (.inl h3)) h6, dp_dRs (.inl (.inl k3)) k6, shp_dRs _, shp_dRs _, ?_⟩
        rw [eqv_dRs]
        rw [decide_eq_true e, Bool.true_and] at q
        exact q
      · rw [decide_eq_false e]
        refine iteF ?_
        rw [decide_eq_false e, Bool.false_and] at q
        exact q
    · exact ⟨_, rfl, y, .ref C, _, _, _, rfl, .own C, hT, (N Ty hm).1, false, rfl, iteF q⟩
end
end Ew
namespace Ew
open PySem PySem.Spec PyProof.Rows L2
abbrev sLaw : Stmt := (top 55)
theorem sameX {H H1 H2 : Hp} {f : Addr} (s : Same H H1) (n : H f = none) (e : Ext1 f H1 H2) : Same H H2 := ⟨fun b o h z => e.1 b o (ne_of_none h n) (s.go b o h z) z, fun b z => by
  by_cases hb : b = f
  · rw [hb]; exact n
  · exact s.un b (e.un b hb z), fun P q t => e.tab P q (s.tab P q t)⟩
def spLaw (K : PySem.W.Frag) : Sp := fun vs H Q _ => ∃ (a : Addr) (ns : List Int), vs = [.ref a] ∧ SqL K H a (ns.map V.int) ∧ ns.length ≤ 63 ∧ ∀ H', Q (.bl true) H'
section
variable {P : Program} {w : World} {K : PySem.W.Frag} {mg : Str → Option Value} {base : Heap} {C : Addr}
/-- a new book, made of such lists -/
theorem init_of {Hb : Hp} {f x dx A1 R1 : Addr} {ds : List Int} {us : List V} {rs : List (Int × List Int)} {Q : VK} {E : XK} (hf : FeedAt Hb f) (nx : Hb x = none) (ndx : Hb dx = none) (nex : dx ≠ x) (hA : SqL K Hb A1 (ds.map V.int)) (hR : SqL K Hb R1 us)
    (hP : Paired (RdT K Hb) us rs) (ok : DsOk ds rs) (k : ∀ H4, Same Hb H4 → IsBook K C f H4 x ds us rs → Q .non H4) : spBkInit K C [.ref x, .ref A1, .ref R1] (upd (upd Hb dx (.own x)) x (.ins C dx [])) Q E := by
  have s0 : Same Hb (upd (upd Hb dx (.own x)) x (.ins C dx [])) := .of fun b o e => by
    rw [upd_ne (ne_of_none e nx), upd_ne (ne_of_none e ndx)]
    exact e
  refine ⟨x, dx, A1, R1, ds, us, rs, rfl, upd_same, s0.seq hA, s0.seq hR, L2.Paired.mapP hP fun _ _ z => z.same s0, ok, fun H4 A2 R2 keep nA nR hx hA2 hR2 => ?_⟩
  have s4 : Same Hb H4 := keep Hb s0 nx
  have hf0 : FeedAt (upd (upd Hb dx (.own x)) x (.ins C dx [])) f := let ⟨d, t, e⟩ := hf; ⟨d, t, s0 _ _ e⟩
  exact k H4 s4 ⟨dx, A2, R2, hx, hA2, hR2, hf0.ne nA, hf0.ne nR, L2.Paired.mapP hP fun _ _ z => z.same s4⟩
end
end Ew
namespace Ew
open PySem PySem.Spec PyProof.Rows L2
/-! ### x != y, x an instance of a class that has an __eq__ and no __ne__; len(x) by an own __len__ -/
theorem on_bind (self : Value) : bindSpecial (.builtin "object.__ne__") self = pure (.builtin "object.__ne__", [self]) :=
  (Slot.of (T := "object") (name := "__ne__") (owner := "object") (n := "__ne__") (by rw [typeLookup_type, builtinLookup_eq_fast]; kernel_rfl) (by decide +kernel) (by decide +kernel) (by decide +kernel)
    (.inl (by decide +kernel)) (by rw [isSubtype_type]; kernel_rfl)).bind self
/-- what the written part says of a class over object -/
def OverObject (K : PySem.W.Frag) (C : Addr) : Prop := ∃ nm q N bs bm sn sub ab col dd k0 k1 k2 k3 k5 hd nid, K.lookup C = some (excClassObj nm q C N bs bm hd sn sub ab col dd k0 k1 k2 k3 k5 nid) ∧ bm.contains (.type "object") = true
section
variable {prog : Program} {w : World} {A : Around} {E : Value → Shared → Prop} {s : Shared} {K : PySem.W.Frag} {x C L f : Addr} {h₀ : Heap} {m : Str → Option Value} {ox : Obj} {od : Option Obj} {b tb : Value}
open PySem.W PySem.Calls Builtin in
theorem objNe_K (hu : A.units < cLine) (X : K.In s.heap) (I : InstAt s.heap x ox C od) (hs : findIn K (.ref C) "__eq__" = some (some (.ref f))) (hf : isFn K (.ref f) = true) {Q : PySem.Fin → Shared → Prop}
    (hcall : wpAny (model prog w) A (call (.ref f) [.ref x, b]) (fun v s' => ∃ c, v = .bool c ∧ Q (.done (.ret (.bool (!c)))) s') E s) :
    wpAny (model prog w) A (Builtin.«object.__ne__» ⟨[.ref x, b], []⟩) Q E s := by
  unfold Builtin.«object.__ne__»
  repeat (first
    | with_reducible refine wpAny_cRoomFor hu ?_
    | (refine wpAny_bind (m := callSpecialIfBound? (.ref x) (Str.ofString "__eq__") [b])
        (ifBound_K X I hs hf (wpAny_mono hcall (fun r s' hr => by
          obtain ⟨c, rfl, hq⟩ := hr
          repeat (first | exact hq | exact wpAny_pure hq | exact wpAny_truthy_bool hq | (refine wpAny_bind (m := truthy (.bool _)) (wpAny_truthy_bool ?_)) | wp_step)) fun _ _ e => e)))
    | wp_step)
open PySem.W PySem.Calls Builtin in
theorem ifBound_B {M : Model} {name : Str} {id : String} {args : List Value} {Q : Option Value → Shared → Prop} (X : K.In s.heap) (I : InstAt s.heap x ox C od) (hs : findIn K (.ref C) name = some (some (.builtin id))) (hbind : ∀ self, bindSpecial (.builtin id) self = pure (.builtin id, [self]))
    (h : wpAny M A (call (.builtin id) (.ref x :: args)) (fun v => Q (some v)) E s) : wpAny M A (callSpecialIfBound? (.ref x) name args) Q E s := by
  simp only [callSpecialIfBound?, bindSpecialIfBound?, hbind]
  refine wpAny_holding (wpAny_bind (wpAny_bind (wpAny_bind (I.type.here ((looks_findIn X hs).here ?_)))))
  refine wpAny_bind (wpAny_askSetting (wpAny_ite ?_))
  have fin : wpAny M A (call (.builtin id) ([.ref x] ++ args) >>= fun v => pure (some v)) Q E s := wpAny_bind (wpAny_mono h (fun v s' h' => wpAny_pure h') fun _ _ h' => h')
  split
  · simp only [hbind]
    exact wpAny_bind (wpAny_pure (wpAny_pure (by exact fin)))
  · simp only [hbind]
    exact wpAny_tryCatch (wpAny_bind (wpAny_pure (wpAny_pure (by exact fin))))
open PySem.W PySem.Calls Builtin in
theorem ne_K' {Q : Value → Shared → Prop} (hu : A.units + 1 < cLine) (F : Fr h₀ L s.heap m) (X₀ : K.In h₀) (I : InstAt s.heap x ox C od) (hox : s.heap.get? x = some ox) (hoc : ox.cls = .ref C) (ho : OverObject K C) (hb : Looks (model prog w) s.heap (typeOf b) tb) (hn : notFirst K C tb = true)
    (hne : findIn K (.ref C) "__ne__" = some (some (.builtin "object.__ne__"))) (hs : findIn K (.ref C) "__eq__" = some (some (.ref f))) (hf : isFn K (.ref f) = true)
    (h : wpAny (model prog w) A.in1 (call (.ref f) [.ref x, b]) (fun v s' => ∃ c, v = .bool c ∧ Q (.bool (!c)) s') E s) : wpAny (model prog w) A (richCompare .NotEq (.ref x) b) Q E s := by
  have X := X₀.keeps F.keep
  obtain ⟨nm, q, N, bs, bm, sn, sub, ab, col, dd, k0, k1, k2, k3, k5, hd, nid, hC, hbm⟩ := ho
  have one : wpAny (model prog w) A (tryCompare (.ref x) "__ne__" b) (fun r s' => ∃ v, r = some v ∧ Q v s') E s := by
    unfold tryCompare
    refine wpAny_bind (ifBound_B X I hne on_bind ?_)
    obtain ⟨hp, g, d, t, os⟩ := s
    refine wpAny_call (codeAny_call_builtin (by decide +kernel) PySem.F.cmpEntry_ne (wpAny_check_slot_inst PySem.F.cmpKind_ne PySem.F.cmpSplit_ne (PySem.F.cmpArgs_ne _ _) hbm hox hoc (X _ _ hC)
        (objNe_K (A := A.in1) hu X I hs hf (wpAny_mono h (fun v s' hv => ?_) fun _ _ e => e))))
    obtain ⟨c, rfl, hq⟩ := hv
    first | exact ⟨c, rfl, wpAny_pure ⟨_, rfl, hq⟩⟩ | exact ⟨c, rfl, wpAny_pure (wpAny_pure ⟨_, rfl, hq⟩)⟩
  unfold richCompare
  simp only [oneThing_ref]
  refine wpAny_holding (wpAny_bind (wpAny_cRoomFor (Nat.lt_of_succ_lt hu) ?_))
  refine wpAny_bind (I.type.here (wpAny_bind (hb.here ?_)))
  split
  · rename_i q
    have e : subIn K tb (.ref C) = some false := by
      rcases Bool.or_eq_true_iff.mp hn with e | e
      · rw [beq_iff_eq.mp e] at q; simp at q
      · exact beq_iff_eq.mp e
    refine wpAny_bind ((looks_subIn X e).here ?_)
    simp only [Bool.false_eq_true, if_false]
    refine wpAny_bind (wpAny_mono one (fun r s' z => ?_) fun _ _ e => e)
    obtain ⟨v, rfl, hq⟩ := z
    exact wpAny_pure hq
  · refine wpAny_bind (wpAny_pure ?_)
    simp only [Bool.false_eq_true, if_false]
    refine wpAny_bind (wpAny_mono one (fun r s' z => ?_) fun _ _ e => e)
    obtain ⟨v, rfl, hq⟩ := z
    exact wpAny_pure hq
end
section
variable {X : Cx} {n : Nat} {C f : Addr} {fd : FuncData} {ps : List Str} {sp : Sp}
/-- the callee runs below a builtin -/
theorem run_in1 {pins : List (Addr × Obj)} {σ : L2.St} {H : Hp} {s : Shared} {Q : VK} {us : List Value} {vs : List V} (F : FnOk X.prog X.w X.K X.mg X.base CX0 n f fd ps sp) (hr : Room (n + 1) X.A) (hb : Binds X.K fd ps [])
    (I : Inv X pins σ H s) (r : Vals vs us) (h : sp vs H Q E0) : wpAny (model X.prog X.w) X.A.in1 (call (.ref f) us) (EP X pins σ Q) X.xe s := by
  have hl : us.length = ps.length := by rw [← r.length]; exact F.len _ _ _ _ h
  refine wpAny_call (codeAny_mono (F.run X.A.in1 X.stack s H ⟨us, []⟩ us vs Q E0 hr.in1 I.env0.in1 (by
    have := hb s us I.kIn (by simpa using hl)
    simpa using this) r h) fun r s' hq => ?_)
  cases r with
  | error e => exact False.elim hq
  | ok fl =>
    cases fl with
    | ret u => exact I.after hq
    | next => exact False.elim hq
    | brk => exact False.elim hq
    | cont => exact False.elim hq
theorem op_neOwn (F : FnOk X.prog X.w X.K X.mg X.base CX0 n f fd ps sp) (hr : Room (n + 1) X.A) (hs : PySem.W.findIn X.K (.ref C) "__eq__" = some (some (.ref f))) (hf : PySem.W.isFn X.K (.ref f) = true) (hb : Binds X.K fd ps [])
    (ho : OverObject X.K C) (hne : PySem.W.findIn X.K (.ref C) "__ne__" = some (some (.builtin "object.__ne__"))) : OpR X (compareOp .NotEq) (rOwnEq X.K C sp true) := by
  intro pins s σ H x y v u Q I rx ry hq
  obtain ⟨a, dx, fs, t, rfl, ha, ty, hn, hsp⟩ := hq
  cases rx
  obtain ⟨mA, J, _⟩ := ins_get I.hok ha
  obtain ⟨od, J, _⟩ := J.look
  obtain ⟨m, hF⟩ := I.fr
  obtain ⟨_, _, _, hget, _⟩ := (show ObjOk X.prog X.w H s.heap a (.ins C dx fs) from I.hok a _ ha)
  have hu := hr.units
  show wpAny (model X.prog X.w) X.A (richCompare .NotEq (.ref a) u) (EP X pins σ Q) X.xe s
  refine ne_K' (tb := t) (by omega) hF I.ok.mod.kin J hget rfl ho (looksT I ry ty) hn hne hs hf ?_
  refine wpAny_mono (run_in1 (vs := [V.ref a, y]) (us := [Value.ref a, u]) F hr hb I (.cons rfl (.cons ry .nil)) hsp) (fun r s' hq => ?_) fun _ _ h => h
  obtain ⟨z, H', I', rz, b, ez, q⟩ := hq
  subst ez
  cases rz
  exact ⟨b, rfl, .bl (!b), H', I', rfl, q⟩
/-- len(x), x an instance of the class at C with an own __len__ -/
theorem call_lenOwn (F : FnOk X.prog X.w X.K X.mg X.base CX0 n f fd ps sp) (hr : Room (n + 1) X.A) (hs : PySem.W.findIn X.K (.ref C) "__len__" = some (some (.ref f))) (hf : PySem.W.isFn X.K (.ref f) = true) (hb : Binds X.K fd ps []) :
    CallR X (.builtin "len") (fun xs H Q => ∃ a dx fs, xs = [.ref a] ∧ H a = some (.ins C dx fs) ∧ sp [.ref a] H (fun v H' => ∃ k : Int, v = .int k ∧ (0 ≤ k ∧ k < 2 ^ 63) ∧ Q (.int k) H') E0) := by
  intro pins s σ H xs us Q I r hq
  obtain ⟨a, dx, fs, rfl, ha, hsp⟩ := hq
  cases r with
  | cons r1 r2 =>
    cases r2
    cases r1
    obtain ⟨mA, J, _⟩ := ins_get I.hok ha
    obtain ⟨od, J, _⟩ := J.look
    obtain ⟨m, hF⟩ := I.fr
    refine PySem.W.len_K hF I.ok.mod.kin J hs hf ?_
    refine wpAny_mono (run_in1 (vs := [V.ref a]) (us := [Value.ref a]) F hr hb I (.cons rfl .nil) hsp) (fun r s' hq => ?_) fun _ _ h => h
    obtain ⟨z, H', I', rz, k, ez, hk, q⟩ := hq
    subst ez
    obtain ⟨t, rfl⟩ := rz
    exact ⟨hk, .int k, H', I'.tok _, ⟨_, rfl⟩, q⟩
end
end Ew
namespace Ew
open PySem PySem.Spec PyProof.Rows L2
section
variable {X : Cx}
theorem cut_all {xs : List V} {lo hi : Option Int} (h : HT.sIx xs.length 0 lo = 0 ∧ HT.sIx xs.length xs.length hi = xs.length) : cutV xs lo hi = xs := by
  unfold cutV
  rw [h.1, h.2, List.drop_zero, Nat.sub_zero, List.take_length]
/-- t[lo:hi], the whole too -/
def rSl1 (K : PySem.W.Frag) : V → Option Int → Option Int → Hp → VK → Prop := fun x lo hi H Q => ∃ a xs, x = .ref a ∧ SqT K H a xs ∧ ∀ p H', Same H H' → SqT K H' p (cutV xs lo hi) → Q (.ref p) H'
theorem sl_tup1 : SlR X (rSl1 X.K) := by
  intro pins s σ H x v vl vu lo hi sl Q I rx hs pl pu h
  obtain ⟨a, xs, rfl, hx, q⟩ := h
  exact sl_tupA pins s σ H _ v vl vu lo hi sl Q I rx hs pl pu ⟨a, xs, rfl, hx, fun hw => q a H (Same.refl H) (by rw [cut_all hw]; exact hx), fun _ p np => q p _ (sameU np) (.inl (.inl upd_same))⟩
end
theorem cut_from (xs : List V) (k : Nat) : cutV xs (some (k : Int)) none = xs.drop k := by
  unfold cutV
  rw [HT.sIx_nat, HT.sIx_none]
  rcases Nat.le_total k xs.length with h | h
  · rw [Nat.min_eq_left h, List.take_of_length_le (by rw [List.length_drop]; omega)]
  · rw [Nat.min_eq_right h, List.drop_of_length_le h, Nat.sub_self]
    simp
theorem cut_to (xs : List V) (k : Nat) : cutV xs none (some (k : Int)) = xs.take k := by
  unfold cutV
  rw [HT.sIx_nat, HT.sIx_none, List.drop_zero, Nat.sub_zero]
  rcases Nat.le_total k xs.length with h | h
  · rw [Nat.min_eq_left h]
  · rw [Nat.min_eq_right h, List.take_of_length_le h, List.take_length]
theorem Paired.drop {α β : Type} {R : α → β → Prop} : ∀ {xs : List α} {ys : List β} (n : Nat), Paired R xs ys → Paired R (xs.drop n) (ys.drop n)
  | _, _, 0, h => h
  | _, _, _ + 1, .nil => .nil
  | _, _, n + 1, .cons _ t => Paired.drop n t
theorem Paired.app {α β : Type} {R : α → β → Prop} : ∀ {xs : List α} {ys : List β} {us : List α} {ws : List β}, Paired R xs ys → Paired R us ws → Paired R (xs ++ us) (ys ++ ws)
  | _, _, _, _, .nil, h => h
  | _, _, _, _, .cons r t, h => .cons r (Paired.app t h)
theorem Paired.rev {α β : Type} {R : α → β → Prop} : ∀ {xs : List α} {ys : List β}, Paired R xs ys → Paired R xs.reverse ys.reverse
  | _, _, .nil => .nil
  | x :: xs, y :: ys, .cons r t => by
    rw [List.reverse_cons, List.reverse_cons]
    exact Paired.app (Paired.rev t) (.cons r .nil)
end Ew
namespace Ew
open PySem PySem.Spec PyProof.Rows L2
/-! ### repr of data, where no repr is under way -/
mutual
theorem dp_noDict {K : PySem.W.Frag} {H : Hp} : ∀ (d : PyData) (v : V), Dp K H v d → d.hasDict = false
  | .none, _, _ => rfl
  | .bool _, _, _ => rfl
  | .int _, _, _ => rfl
  | .str _, _, _ => rfl
  | .list ds, _, h => by
    cases h with
    | lst _ ha => exact dpAll_noDict ds _ ha
  | .tuple ds, _, h => by
    cases h with
    | tup _ ha => exact dpAll_noDict ds _ ha
  | .dict _, _, h => by cases h
theorem dpAll_noDict {K : PySem.W.Frag} {H : Hp} : ∀ (ds : List PyData) (vs : List V), DpAll K H vs ds → PyData.hasDictAll ds = false
  | [], _, _ => rfl
  | d :: ds, _, h => by
    cases h with
    | cons h1 h2 =>
      show (PyData.hasDict d || PyData.hasDictAll ds) = false
      rw [dp_noDict d _ h1, dpAll_noDict ds _ h2]
      rfl
end
def rRepr (K : PySem.W.Frag) : List V → Hp → VK → Prop := fun xs H Q => ∃ v d, xs = [v] ∧ Dp K H v d ∧ d.showable = true ∧ d.depth ≤ 60 ∧ d.shown.length ≤ sizeLine ∧ Q (.str d.shown) H
section
variable {X : Cx}
theorem call_repr (hg : X.A.guards = some []) (hu : X.A.units + 64 < cLine) : CallR X (.builtin "repr") (rRepr X.K) := by
  intro pins s σ H xs us Q I r h
  obtain ⟨v, d, rfl, hd, hs, hdep, hsz, q⟩ := h
  cases r with
  | cons r1 r2 =>
    cases r2
    rename_i u
    obtain ⟨as, rd⟩ := Dp.reads I d v u hd r1
    have nod := dp_noDict d v hd
    cases hd with
    | non => cases (show u = Value.none from r1); exact PySem.P.repr_of_none ⟨.str _, H, I.tok _, ⟨_, rfl⟩, q⟩
    | bl b => cases (show u = Value.bool b from r1); exact PySem.P.repr_of_bool ⟨.str _, H, I.tok _, ⟨_, rfl⟩, q⟩
    | int i => obtain ⟨t, e⟩ := (show ∃ t, u = Value.int i t from r1); cases e; exact PySem.P.repr_of_int (of_decide_eq_true hs) ⟨.str _, H, I.tok _, ⟨_, rfl⟩, q⟩
    | str y => obtain ⟨t, e⟩ := (show ∃ t, u = Value.str y t from r1); cases e; exact PySem.P.repr_of_str (hsz := hsz) ⟨.str _, H, I.tok _, ⟨_, rfl⟩, q⟩
    | @lst a xs ds h1 h2 =>
      cases (show u = Value.ref a from r1)
      exact repr_of_reads' rd hs (fun e => by rw [nod] at e; cases e) hg (by omega) (fun _ _ e => e) (fun h' u tk hk => ⟨.str _, H, I.kept (t' := tk) hk, ⟨_, rfl⟩, q⟩) hsz
    | @tup a xs ds h1 h2 =>
      cases (show u = Value.ref a from r1)
      exact repr_of_reads' rd hs (fun e => by rw [nod] at e; cases e) hg (by omega) (fun _ _ e => e) (fun h' u tk hk => ⟨.str _, H, I.kept (t' := tk) hk, ⟨_, rfl⟩, q⟩) hsz
end
/-! ### a def that is called where no repr is under way -/
structure FnOkG (P : Program) (w : World) (K : PySem.W.Frag) (mg : Str → Option Value) (base : Heap) (k : Nat) (f : Addr) (fd : FuncData) (ps : List Str) (sp : Sp) : Prop where
  len : ∀ vs H Q E, sp vs H Q E → vs.length = ps.length
  run : ∀ (A : Around) (outer : List Env) (s : Shared) (H : Hp) (args : Args) (us : List Value) (vs : List V) (Q : VK) (E : XK), A.guards = some [] → Room k A → Env0 P w K mg base A outer s H → BindsTo s fd args (ps.zip us) → Vals vs us → sp vs H Q E →
    codeAny (model P w) A (.call (.ref f) args) (CR CX0 outer P w H s Q E) s
section
variable {P : Program} {w : World} {K : PySem.W.Frag} {mg : Str → Option Value} {base : Heap}
theorem okG {x qual : Str} {st : Stmt} {f : Addr} {fd : FuncData} {N ps : List Str} {k : Nat} {sp : Sp} (F : Fun K x qual st f fd) (S : FnScope N ps (defScope st)) (len : ∀ vs H Q E, sp vs H Q E → vs.length = ps.length)
    (hbody : ∀ (cdv : Value) (A : Around) (outer : List Env) (s : Shared) (H : Hp) (vs : List V) (Q : VK) (E : XK), A.guards = some [] → Room k (A.deeper (envOfC qual (defScope st) s.heap.objs.size f cdv)) → sp vs H Q E →
      ∃ t, PSs (cxOf CX0 P w K mg base N qual (defScope st) f cdv A outer s H E).nox (defBody st) t ∧ t { nx := fun _ H' => Q .non H', rt := Q } (L2.start N vs) H) : FnOkG P w K mg base (k + 1) f fd ps sp := by
  obtain ⟨oc, od, kV, doc, pm, an, cdv, ct, osl, rfl, lk, hcd⟩ := F.ex
  refine ⟨len, fun A outer s H args us vs Q E hgd hr e0 hb r hsp => ?_⟩
  have sub : ∀ b o, base.get? b = some o → s.heap.get? b = some o := fun b o e => (e0.bs b o e).1
  have inK : K.In s.heap := e0.mod.kin.keeps sub
  have lim : s.heap.NoLimit := e0.mod.nolimit.keeps sub
  have hkind : ∀ y ∈ ps.zip us, (defScope st).names.lookup y.1 = some .local ∨ ((defScope st).names.lookup y.1 = some .cell ∧ ((cellsFrom (s.heap.objs.size + 1) (defScope st).names []).lookup y.1).isSome = true) := by
    rintro ⟨n, v⟩ hy
    exact (S.par n (List.of_mem_zip hy).1).elim .inl fun z => .inr ⟨z, PySem.W.cellsFrom_some _ _ _ (.inl z)⟩
  refine codeAny_call_function hr.depth (inK _ _ lk) rfl S.co S.gen rfl (PySem.W.codeRec_of inK hcd) (hb _ _ _ _ (wpAny_newFunctionEnv_cells S.kind hkind fun env he s1 hs1 => ?_))
  subst he
  obtain ⟨t, ht, hq⟩ := hbody cdv A outer s H vs Q E hgd (hr.deeper _) hsp
  have I := inv_start (CX := CX0) (P := P) (w := w) (f := f) (cd := cdv) (E := E) (qual := qual) S hr.hd e0 (len _ _ _ _ hsp) r hs1
  refine ⟨lim.keeps hs1.toInCall.keep, codeAny_func (wpAny_mono (ht.nox.run [] s1 (L2.start N vs) H _ I hq) (fun fl s' hs => ?_) fun e s' hs => hs)⟩
  cases fl with
  | ret u => obtain ⟨v, σ', H', J, rv, q⟩ := hs; exact ⟨v, H', J.os, J.bare, J.base, J.hok, rv, q⟩
  | next => obtain ⟨σ', H', J, q⟩ := hs; exact ⟨.non, H', J.os, J.bare, J.base, J.hok, rfl, q⟩
  | brk => obtain ⟨_, _, _, q⟩ := hs; exact q.elim
  | cont => obtain ⟨_, _, _, q⟩ := hs; exact q.elim
end
section
variable {X : Cx} {k : Nat} {f : Addr} {fd : FuncData} {ps : List Str} {sp : Sp} {x : Str} {p pos : Pos} {e : Expr} {es : List Expr} {t : TA}
/-- f(e, ..), f such a def -/
theorem pe_callG (F : FnOkG X.prog X.w X.K X.mg X.base k f fd ps sp) (hgd : X.A.guards = some []) (hr : Room k X.A) (hg : Gl X x) (hm : X.mg x = some (.ref f)) (hk : PySem.W.keepIn X.K (.ref f) = true) (hb : Binds X.K fd ps [])
    (ha : PA X (e :: es) t) (hdb : (x == ("__debug__" : Str)) = false := by decide) (he : starEach (e :: es) X.env = (false, eval e X.env) :: starEach es X.env := by rfl) (hpl : (backTo pos (starEach es X.env)).any (·.1) = false := by rfl) :
    PE X (.Call (.Name x p) (e :: es) [] pos) (tCall sp [] E0 t) := by
  refine ⟨fun pins s σ H Q I h => wpAny_Call_Name_kw (ld_glob I hg hm ?_ hdb)⟩
  refine PySem.W.callWith_K (h₀ := X.base) I.ok.mod.kin hk (thn (ha.run pos pins s σ H _ I h) fun us s1 ⟨vs, H1, I1, r, q⟩ => ⟨I1.kIn, ?_⟩) he hpl
  have q2 : sp (vs ++ []) H1 Q E0 := q
  rw [List.append_nil] at q2
  have hl : us.length = ps.length := by rw [← r.length]; exact F.len _ _ _ _ q2
  refine wpAny_call (codeAny_mono (F.run X.A X.stack s1 H1 ⟨us, []⟩ us vs Q E0 hgd hr I1.env0 (by simpa using hb s1 us I1.kIn (by simpa using hl)) r q2) fun r s' hq => ?_)
  cases r with
  | error _ => exact False.elim hq
  | ok fl =>
    cases fl with
    | ret u => exact I1.after hq
    | next => exact False.elim hq
    | brk => exact False.elim hq
    | cont => exact False.elim hq
end
/-- what is tracked ahead of the law's call: the script alone -/
def only (a : Addr) (o : Obj) (xs : List V) : Hp := fun b => if b = a then some (.frz o (.lst xs)) else none
theorem only_ne {a b : Addr} {o : Obj} {xs : List V} (h : b ≠ a) : only a o xs b = none := if_neg h
theorem only_at {a : Addr} {o : Obj} {xs : List V} : only a o xs a = some (.frz o (.lst xs)) := if_pos rfl
theorem only_is {a b : Addr} {o : Obj} {xs : List V} {u : HO} (h : only a o xs b = some u) : b = a ∧ u = .frz o (.lst xs) := by
  by_cases e : b = a
  · subst e
    rw [only_at] at h
    exact ⟨rfl, (Option.some.inj h).symm⟩
  · rw [only_ne e] at h
    cases h
section
variable {P : Program} {w : World} {K : PySem.W.Frag} {mg mb : Str → Option Value} {k : Nat} {fa a : Addr} {fd : FuncData} {x : Str} {sp : Sp} {s₁ : Shared} {vs : List Value} {ns : List Int}
/-- the law's call from an abstract heap that tracks at most the script -/
theorem call_from {H : Hp} (KX : K.In s₁.heap) (hns : s₁.heap.Ns mainGlobals mg) (hb : s₁.heap.Ns builtinsNs mb) (hbb : ∀ x : Str, x ≠ "__name__" → mb x = bootBuiltins x) (hlim : s₁.heap.NoLimit) (hg : s₁.gens = #[])
    (hr : Room k callerA) (F : ∀ base : Heap, K.In base → base.Ns mainGlobals mg → FnOkG P w K mg base k fa fd [x] sp) (hbind : ∀ (s : Shared) (u : Value), BindsTo s fd ⟨[u], []⟩ [(x, u)])
    (hsp : sp [.ref a] H (fun v _ => v = .bl true) fun _ _ _ => False) (hok : HOk P w H s₁.heap) (dicts : ∀ b o es ep, s₁.heap.get? b = some o → o.data = .dict es ep → H b = none) (kept : ∀ b o, K.lookup b = some o → H b = none)
    (frz : ∀ b u, H b = some u → ∃ o xs, u = .frz o (.lst xs)) :
    codeAny (model P w) callerA (.call (.ref fa) ⟨[.ref a], []⟩) (fun r s' => r = .ok (.ret (.bool true)) ∧ OldK s₁.heap s'.heap ∧ s'.os = s₁.os ∧ AllBare s'.gens) s₁ := by
  have nsB : ∀ {b : Addr} {m : Str → Option Value}, s₁.heap.Ns b m → (hidT s₁.heap H).Ns b m := by
    rintro b m ⟨o, es, ep, e, d, r⟩
    exact ⟨o, es, ep, hidT_get e (dicts _ _ _ _ e d), d, r⟩
  have inB : K.In (hidT s₁.heap H) := fun b o e => hidT_get (KX b o e) (kept b o e)
  have hM : Mod K mg (hidT s₁.heap H) := ⟨inB, nsB hns, ⟨mb, nsB hb, hbb⟩, let ⟨mc, h1, h2⟩ := hlim; ⟨mc, nsB h1, h2⟩⟩
  have noFr : ∀ b ∈ frs ([] : List Env), H b = none := fun b z => absurd (show b ∈ ([] : List Addr) from z) (by simp)
  have e0 : Env0 P w K mg (hidT s₁.heap H) callerA [] s₁ H := ⟨rfl, hM, fun b o e => of_hidT e, Nat.le_of_eq (hidT_size _ _), trivial, noFr, hok, .of_eq hg⟩
  refine codeAny_mono ((F _ inB (nsB hns)).run callerA [] s₁ H ⟨[.ref a], []⟩ [.ref a] [.ref a] _ _ rfl hr e0 (hbind s₁ (.ref a)) (.cons rfl .nil) hsp) fun r s' h => ?_
  cases r with
  | error e => exact False.elim h
  | ok fl =>
    cases fl with
    | next => exact False.elim h
    | brk => exact False.elim h
    | cont => exact False.elim h
    | ret u =>
      obtain ⟨v, H', os, bare, un, hok', r', q⟩ := h
      obtain rfl : v = .bl true := q
      obtain rfl : u = Value.bool true := r'
      refine ⟨rfl, OldK.of_keep fun b o e => ?_, os, bare⟩
      cases hb2 : H b with
      | none => exact un.keep b o e hb2 (fun z => absurd (show b ∈ ([] : List Addr) from z) (by simp)) (by simp)
      | some u =>
        obtain ⟨ob, xs, rfl⟩ := frz b u hb2
        obtain ⟨e1, _⟩ := hok b _ hb2
        obtain ⟨e2, _⟩ := hok' b _ (un.frzs b ob _ hb2)
        exact e2.trans (e1.symm.trans e)
end
/-- the end of a law whose def asks that no repr is under way -/
theorem walk_ofG {l : PySem.W.OpenLaw} {n k : Nat} {q : Program} {loose : List Str} {XP : (Str → Option Value) → Heap → Prop} {YP : World → Heap → Prop} {d : DefRec} {K : Params → PySem.W.Frag} {sp : World → Sp} {x : Str}
    (hn : l.most = some n) (hn2 : n ≤ sizeLine) (hdf : d.params.defaults = []) (hr : Room k callerA)
    (hY : ∀ (w : World) (h : Heap), YP w h → (K w.params).In h)
    (F : ∀ (w : World) (mg : Str → Option Value) (fa : Addr) (h : Heap), (K w.params).In h → h.Ns mainGlobals mg → mg d.name = some (.ref fa) →
      ∃ fd : FuncData, (∀ (s : Shared) (u : Value), BindsTo s fd ⟨[u], []⟩ [(x, u)]) ∧
        ∀ base : Heap, (K w.params).In base → base.Ns mainGlobals mg → FnOkG l.prog w (K w.params) mg base k fa fd [x] (sp w))
    (hsp : ∀ (w : World) (H : Hp) (a : Addr) (ns : List Int), ns.length ≤ n → SqL (K w.params) H a (ns.map V.int) → sp w [.ref a] H (fun v _ => v = .bl true) fun _ _ _ => False) :
    PySem.W.WalkO q loose XP YP l.row.toRowW d [] (fun f vs => PySem.call f vs) := by
  refine Att.attach_call hn hdf fun w s₀ s₁ mg mb fa o pm cd doc a vs ns G Y ho hd hcd hmg hobj hints hlen hg => ?_
  have KX := hY w _ Y
  obtain ⟨fd, hb, hF⟩ := F w mg fa _ KX G.T.g hmg
  have rv := vals_ints hints
  have ls : (ns.map V.int).length ≤ sizeLine := by rw [List.length_map]; exact Nat.le_trans hlen hn2
  cases hk : (K w.params).lookup a with
  | some o =>
    -- the script is one of the module's own objects
    have e := KX a o hk
    rw [hobj] at e
    cases e
    have none_ : ∀ b, (fun _ => none : Hp) b = none := fun _ => rfl
    refine call_from (H := fun _ => none) KX G.T.g G.T.b G.T.builtins G.T.nolimit hg hr hF hb (hsp w _ a ns hlen (.inr ⟨_, vs.toArray, _, hk, rfl, rfl, rfl, ?_, by simpa using rv⟩)) (fun b u z => by cases z) (fun _ _ _ _ _ _ => rfl) (fun _ _ _ => rfl) (fun b u z => by cases z)
    rw [List.size_toArray, ← rv.length]
    exact ls
  | none =>
    refine call_from (H := only a { cls := .type "list", data := .seq vs.toArray } (ns.map V.int)) KX G.T.g G.T.b G.T.builtins G.T.nolimit hg hr hF hb (hsp w _ a ns hlen (.inl (.inr ⟨_, only_at⟩))) (fun b u z => ?_) (fun b ob es ep e d => ?_) (fun b ob e => ?_) (fun b u z => ⟨_, _, (only_is z).2⟩)
    · obtain ⟨rfl, rfl⟩ := only_is z
      exact ⟨hobj, ls, vs, _, rv, hobj⟩
    · refine only_ne fun z => ?_
      rw [z, hobj] at e
      cases e
      cases (show Data.seq vs.toArray _ = Data.dict es ep from d)
    · refine only_ne fun z => ?_
      rw [z, hk] at e
      cases e
end Ew
namespace Ew
open PySem PySem.Spec PyProof.Rows L2
/-! ### sorted(t), t a tuple of ints -/
section
variable {prog : Program} {w : World} {A : Around} {E : Value → Shared → Prop} {s : Shared}
/-- the heap behind the collecting of vs -/
abbrev heapC (h : Heap) (vs : List Value) : Heap := (h.push (seqObj "list" #[] 0)).update h.objs.size (Obj.mapSeq (· ++ vs.toArray))
theorem collect_tup {l : Addr} {vs : List Value} {Q : List Value → Shared → Prop} (hl : IsTup s.heap l vs.toArray) (hsz : vs.length ≤ sizeLine) (h : Q vs { s with heap := heapC s.heap vs }) : wpAny (model prog w) A (collect (.ref l)) Q E s := by
  obtain ⟨o, ho, hc, n, hd⟩ := id hl
  have ho' : (s.heap.push (seqObj "list" #[] 0)).get? l = some o := Heap.get?_push_of_some _ ho
  have hn : (s.heap.push (seqObj "list" #[] 0)).get? s.heap.objs.size = some (seqObj "list" #[] 0) := Heap.get?_push_size _ rfl
  unfold collect
  refine wpAny_bind (wpAny_runValue (codeAny_builtin entry_proto_collect' ?_))
  show wpAny _ _ (do again (.builtin "list.__iadd__" ⟨[← newList [], .ref l], []⟩)) _ _ s
  refine wpAny_bind (wpAny_newList (wpAny_pure ⟨Code.quiet_builtin _ (by decide +kernel), codeAny_builtin entry_list_iadd' ?_⟩))
  show wpAny _ _ (Builtin.List.listExtendWith (.ref s.heap.objs.size) (.ref l) (.ref s.heap.objs.size)) _ _ { s with heap := s.heap.push (seqObj "list" #[] 0) }
  unfold Builtin.List.listExtendWith
  refine wpAny_bind (wpAny_typeOf (T := "tuple") ⟨o, ho', hc⟩ ?_)
  rw [if_pos (by rw [show (Value.type "tuple" == Value.type "tuple") = true from rfl, Bool.or_true])]
  refine wpAny_bind (listItems_at ho' hd (wpAny_bind (listItems_at (xs := #[]) (n := 0) hn rfl ?_)))
  rw [if_neg (by simp)]
  refine wpAny_bind (listUpdate_at (xs := #[]) (n := 0) hn rfl (wpAny_pure ?_) (Nat.zero_le _) (by show (#[] ++ vs.toArray).size ≤ sizeLine + 1; simp; omega))
  show wpAny (model prog w) A (do
      let o ← load s.heap.objs.size
      match o.data with
      | .seq xs _ => pure xs.toList
      | _ => unsupported "internal:collect") Q E { s with heap := heapC s.heap vs }
  refine wpAny_bind (wpAny_load (get?_update_seq hn _) ?_)
  show wpAny _ _ (pure ((#[] : Array Value) ++ vs.toArray).toList) Q E _
  have e : ((#[] : Array Value) ++ vs.toArray).toList = vs := by simp
  rw [e]
  exact wpAny_pure h
theorem sorted_tup {l : Addr} {vs : List Value} {ns : List Int} {Q : Value → Shared → Prop} (hl : IsTup s.heap l vs.toArray) (hI : IntsAre vs ns) (h64 : vs.length < 64)
    (h : ∀ (out : Array Value) (ns' : List Int), IntsAre out.toList ns' → ns'.Perm ns → ns'.Pairwise (· ≤ ·) → Q (.ref (s.heap.objs.size + 1)) { s with heap := sortedAll s.heap vs out }) :
    wpAny (model prog w) A (call (.builtin "sorted") [.ref l]) Q E s := by
  have zs : vs.length ≤ sizeLine := Nat.le_trans (Nat.le_of_lt h64) (by decide)
  have hsz : (heapC s.heap vs).objs.size = s.heap.objs.size + 1 := by rw [Heap.size_update, size_push']
  have hoL : ((heapC s.heap vs).push (seqObj "list" vs.toArray 0)).get? (s.heap.objs.size + 1) = some (seqObj "list" vs.toArray 0) := by
    rw [← hsz]
    exact Heap.get?_push_size _ rfl
  refine Calls.call_function_entry kind_sorted plain_sorted entry_sorted (args_sorted1 _) ?_
  unfold Builtin.«sorted»
  refine wpAny_bind (m := checkCount "sorted" 1 1 _) (wpAny_pure (wpAny_bind (collect_tup hl zs (wpAny_bind (wpAny_newList ?_)))))
  show wpAny _ _ _ _ _ { s with heap := (heapC s.heap vs).push (seqObj "list" vs.toArray 0) }
  rw [hsz]
  exact wpAny_bind (wpAny_holding (wpAny_call_entry slot_list_sort ⟨_, hoL, rfl⟩ entry_list_sort (list_sort_tree hoL hI h64 fun out ns' a1 a2 a3 => ⟨_, rfl, wpAny_pure ⟨_, rfl, h out ns' a1 a2 a3⟩⟩) (args_list_sort _)))
end
section
variable {X : Cx}
def rSortedTu (K : PySem.W.Frag) : List V → Hp → VK → Prop := fun vs H Q => ∃ (a : Addr) (ns : List Int), vs = [V.ref a] ∧ SqT K H a (ns.map V.int) ∧ ns.length < 64 ∧ ∀ (ns' : List Int) (p : Addr), ns'.Perm ns → ns'.Pairwise (· ≤ ·) → H p = none → Q (.ref p) (upd H p (.lst (ns'.map V.int)))
theorem cr_sortedTu : CallR X (.builtin "sorted") (rSortedTu X.K) := by
  intro pins s σ H vs us Q I r h
  obtain ⟨a, ns, rfl, hs, h64, q⟩ := h
  obtain ⟨its, rv, hl, _⟩ := I.tuple hs
  rw [Vals.ref1 r]
  have hi := rv.ints
  refine sorted_tup hl hi (by rw [hi.length]; exact h64) fun out ns' h1 h2 h3 => ?_
  obtain ⟨ep, he⟩ := PyProof.Rows.sortedAll_at s.heap its out
  have hz : (ns'.map V.int).length ≤ sizeLine := by rw [List.length_map, h2.length_eq]; exact Nat.le_trans (Nat.le_of_lt h64) (by decide)
  exact ⟨.ref _, upd H (s.heap.objs.size + 1) (.lst (ns'.map V.int)), I.laid (t' := s.toks) (fun _ _ => PyProof.Rows.sortedAll_old) (Nat.le_succ _) ⟨hz, out.toList, ep, vals_of_ints h1, he⟩, rfl, q ns' _ h2 h3 (I.hok.fresh (Nat.le_succ _))⟩
end
end Ew
namespace Ew
open PySem PySem.Spec PyProof.Rows L2
/-! ### the counts -/
def pres (n : Nat) (as : List Int) : List Int := ((List.range n).filter fun i => !decide (((i : Nat) : Int) ∈ as)).map fun i => ((i : Nat) : Int)
/-- by what is read outside of the set -/
def cnt2 (r : Int × List Int) (row works : List Int) : Int :=
  let o : Int := r.1 - ((row.filter fun x => !decide (x ∈ works)).length : Nat)
  let i : Int := ((works.filter fun x => decide (x ∈ r.2)).length : Nat)
  if i < o then i else o
/-- by what is read within, and what more can be -/
def cnt1 (r : Int × List Int) (row works : List Int) : Int :=
  let has := row.filter fun x => decide (x ∈ works)
  let o : Int := r.1 - (row.length : Nat)
  let i : Int := ((r.2.filter fun x => decide (x ∈ works) && !decide (x ∈ has)).length : Nat)
  (has.length : Nat) + (if i < o then i else o)
theorem split_len {α : Type} (p : α → Bool) : ∀ l : List α, l.length = (l.filter p).length + (l.filter fun x => !p x).length
  | [] => rfl
  | x :: l => by
    have ih := split_len p l
    cases h : p x with
    | true => simp [h]; omega
    | false => simp [h]; omega
theorem nodup_same {xs ys : List Int} (hx : xs.Nodup) (hy : ys.Nodup) (h : ∀ z, z ∈ xs ↔ z ∈ ys) : xs.length = ys.length :=
  ((List.perm_ext_iff_of_nodup hx hy).mpr h).length_eq
theorem nodup_asc {l : List Int} (h : l.Pairwise (· < ·)) : l.Nodup := h.imp fun h => by omega
theorem cnt_eq {r : Int × List Int} {row works : List Int} (ho : RowOk r row) (hm : r.2.Pairwise (· < ·)) (hw : works.Pairwise (· < ·)) : cnt1 r row works = cnt2 r row works := by
  have nr := nodup_asc ho.1
  have nm := nodup_asc hm
  have nw := nodup_asc hw
  have e1 := split_len (fun x => decide (x ∈ works)) row
  -- the works of the set that the reader may read: those that it reads, and the others
  have e2 : (works.filter fun x => decide (x ∈ r.2)).length = (r.2.filter fun x => decide (x ∈ works)).length := nodup_same (nw.filter _) (nm.filter _) (fun z => by simp only [List.mem_filter, decide_eq_true_eq]; exact ⟨fun h => ⟨h.2, h.1⟩, fun h => ⟨h.2, h.1⟩⟩)
  have e3 := split_len (fun x => decide (x ∈ row.filter fun x => decide (x ∈ works))) (r.2.filter fun x => decide (x ∈ works))
  have e4 : ((r.2.filter fun x => decide (x ∈ works)).filter fun x => decide (x ∈ row.filter fun x => decide (x ∈ works))).length = (row.filter fun x => decide (x ∈ works)).length := nodup_same ((nm.filter _).filter _) (nr.filter _) (fun z => by
    simp only [List.mem_filter, decide_eq_true_eq]
    exact ⟨fun h => h.2, fun h => ⟨⟨ho.2.1 z h.1, h.2⟩, h⟩⟩)
  have e5 : ((r.2.filter fun x => decide (x ∈ works)).filter fun x => !decide (x ∈ row.filter fun x => decide (x ∈ works))) = r.2.filter fun x => decide (x ∈ works) && !decide (x ∈ row.filter fun x => decide (x ∈ works)) := by
    rw [List.filter_filter]
    congr 1
    funext x
    exact Bool.and_comm _ _
  rw [e4, e5] at e3
  unfold cnt1 cnt2
  dsimp only
  rw [e2]
  generalize (row.filter fun x => decide (x ∈ works)).length = h at *
  generalize (row.filter fun x => !decide (x ∈ works)).length = o at *
  generalize (r.2.filter fun x => decide (x ∈ works)).length = i at *
  have e6 : (List.filter (fun x => decide (x ∈ works) && !decide (x ∈ List.filter (fun x => decide (x ∈ works)) row)) r.2).length = i - h := by omega
  rw [e6]
  have e7 : ((i - h : Nat) : Int) = (i : Int) - h := by omega
  rw [e7, e1]
  split <;> split <;> omega
/-- one work less in the set takes off none or one -/
theorem cnt_fewer {r : Int × List Int} {row : List Int} {x : Int} {works : List Int} : cnt2 r row (x :: works) - cnt2 r row works = 0 ∨ cnt2 r row (x :: works) - cnt2 r row works = 1 ∨ ¬ (row.Nodup ∧ x ∉ works) := by
  by_cases h : row.Nodup ∧ x ∉ works
  · obtain ⟨nr, nx⟩ := h
    have e1 : ((x :: works).filter fun y => decide (y ∈ r.2)).length = (works.filter fun y => decide (y ∈ r.2)).length + (if x ∈ r.2 then 1 else 0) := by
      by_cases hx : x ∈ r.2 <;> simp [hx]
    have e2 : ∀ row : List Int, row.Nodup → (row.filter fun y => !decide (y ∈ works)).length = (row.filter fun y => !decide (y ∈ x :: works)).length + (if x ∈ row then 1 else 0) := by
      intro row
      induction row with
      | nil => intro _; rfl
      | cons y row ih =>
        intro nd
        have nd' := List.nodup_cons.mp nd
        have ih := ih nd'.2
        by_cases hxy : x = y
        · subst hxy
          have hnr : ¬ x ∈ row := nd'.1
          simp only [hnr, if_false, Nat.add_zero] at ih
          simp [nx, ih]
        · have hyx : ¬ y = x := fun e => hxy e.symm
          have hm : (x ∈ y :: row) ↔ x ∈ row := by simp [hxy]
          by_cases hy : y ∈ works
          · simp [hy, hm, ih]
          · simp [hy, hyx, hm, ih]
            omega
    have e3 := e2 row nr
    unfold cnt2
    dsimp only
    rw [e1, e3]
    generalize (works.filter fun y => decide (y ∈ r.2)).length = i
    generalize (row.filter fun y => !decide (y ∈ x :: works)).length = o
    by_cases h1 : x ∈ r.2 <;> by_cases h2 : x ∈ row <;> simp only [h1, h2, if_true, if_false] <;> (split <;> split <;> omega)
  · exact .inr (.inr h)
/-- one reading more outside of the set takes off none or one -/
theorem cnt_longer {r : Int × List Int} {row row' works : List Int} {x : Int} (hp : row'.Perm (row ++ [x])) (hx : x ∉ works) : cnt2 r row works - cnt2 r row' works = 0 ∨ cnt2 r row works - cnt2 r row' works = 1 := by
  have e : (row'.filter fun y => !decide (y ∈ works)).length = (row.filter fun y => !decide (y ∈ works)).length + 1 := by
    rw [(hp.filter _).length_eq, List.filter_append, List.length_append]
    simp [hx]
  unfold cnt2
  dsimp only
  rw [e]
  split <;> split <;> omega
def cntAt (g : Int × List Int → List Int → List Int → Int) (rs : List (Int × List Int)) (ws : List (List Int)) (works : List Int) (i : Int) : Int := match rs[i.toNat]?, ws[i.toNat]? with
  | some r, some w => g r w works
  | _, _ => 0
def wanted (ds works : List Int) : Int := (works.map fun w => ds.getD w.toNat 0).sum
end Ew
namespace Ew
open PySem PySem.Spec PyProof.Rows L2
/-! ### how long a repr is, what it can show -/
def lens (ts : List Str) : Nat := (ts.map fun t => t.length + 2).sum
theorem textFrom_le : ∀ (ts : List Str) (k : Nat) (acc : Str), (textFrom k acc ts).length ≤ acc.length + lens ts
  | [], _, acc => Nat.le_refl _
  | t :: r, k, acc => by
    have ih := textFrom_le r (k + 1) (acc ++ (if k > 0 then ", " else "" : String) ++ t)
    have e : (acc ++ (if k > 0 then ", " else "" : String) ++ t).length = acc.length + (if k > 0 then 2 else 0) + t.length := by
      rw [strLen_append, strLen_append]
      split <;> rfl
    have e2 : lens (t :: r) = t.length + 2 + lens r := by
      unfold lens
      rw [List.map_cons, List.sum_cons]
    show (textFrom (k + 1) (acc ++ (if k > 0 then ", " else "" : String) ++ t) r).length ≤ _
    rw [e2]
    rw [e] at ih
    have e3 : (if k > 0 then 2 else 0) ≤ 2 := by split <;> omega
    omega
theorem listText_le (ts : List Str) : (listText ts).length ≤ 2 + lens ts := by
  unfold listText
  rw [strLen_append]
  have := textFrom_le ts 0 "["
  have e1 : (("[" : String) : Str).length = 1 := rfl
  have e2 : (("]" : String) : Str).length = 1 := rfl
  rw [e2]
  rw [e1] at this
  omega
theorem piled_lens : ∀ ts : List Str, piled ts = lens ts
  | [] => rfl
  | t :: r => by
    rw [piled_cons, piled_lens r]
    unfold lens
    rw [List.map_cons, List.sum_cons]
theorem tupleText_le (ts : List Str) : (tupleText ts).length ≤ 3 + lens ts := by
  unfold tupleText
  rw [strLen_append, strLen_append]
  have e1 : (("(" : String) : Str).length = 1 := rfl
  have e3 : (((if ts.length == 1 then ",)" else ")" : String)) : Str).length ≤ 2 := by
    split <;> decide
  have e2 : (Str.join ", " ts).length ≤ lens ts := by
    cases ts with
    | nil => exact Nat.zero_le _
    | cons t r =>
      have := join_length_add (t :: r) (by simp)
      rw [piled_lens] at this
      omega
  rw [e1]
  omega
theorem shownAll_map {α : Type} (g : α → PyData) : ∀ l : List α, PyData.shownAll (l.map g) = l.map fun x => PyData.shown (g x)
  | [] => rfl
  | x :: l => by
    show PyData.shown (g x) :: PyData.shownAll (l.map g) = _
    rw [shownAll_map g l]
    rfl
theorem lens_map {α : Type} (g : α → Str) (b : Nat) : ∀ l : List α, (∀ x ∈ l, (g x).length ≤ b) → lens (l.map g) ≤ l.length * (b + 2)
  | [], _ => Nat.zero_le _
  | x :: l, h => by
    have ih := lens_map g b l fun y hy => h y (by simp [hy])
    have hx := h x (by simp)
    have e : lens ((x :: l).map g) = (g x).length + 2 + lens (l.map g) := by
      unfold lens
      rw [List.map_cons, List.map_cons, List.sum_cons]
    rw [e, List.length_cons, Nat.succ_mul]
    omega
theorem showAll_map {α : Type} (g : α → PyData) : ∀ l : List α, (∀ x ∈ l, PyData.showable (g x) = true) → PyData.showableAll (l.map g) = true
  | [], _ => rfl
  | x :: l, h => by
    show (PyData.showable (g x) && PyData.showableAll (l.map g)) = true
    rw [h x (by simp), showAll_map g l fun y hy => h y (by simp [hy])]
    rfl
/-- a small int: 0 to 9 -/
def Dig (i : Int) : Prop := 0 ≤ i ∧ i < 10
theorem dig_cases {i : Int} (h : Dig i) : i = 0 ∨ i = 1 ∨ i = 2 ∨ i = 3 ∨ i = 4 ∨ i = 5 ∨ i = 6 ∨ i = 7 ∨ i = 8 ∨ i = 9 := by
  obtain ⟨h1, h2⟩ := h
  omega
theorem show_int {i : Int} (h : Dig i) : PyData.showable (.int i) = true ∧ (PyData.shown (.int i)).length ≤ 1 := by
  rcases dig_cases h with rfl | rfl | rfl | rfl | rfl | rfl | rfl | rfl | rfl | rfl <;> exact ⟨by decide +kernel, by decide +kernel⟩
theorem show_dT {w : List Int} (h : ∀ x ∈ w, Dig x) : PyData.showable (dT w) = true ∧ (PyData.shown (dT w)).length ≤ 3 + w.length * 3 := by
  refine ⟨showAll_map PyData.int w fun x hx => (show_int (h x hx)).1, ?_⟩
  show (tupleText (PyData.shownAll (w.map PyData.int))).length ≤ _
  rw [shownAll_map]
  exact Nat.le_trans (tupleText_le _) (Nat.add_le_add_left (lens_map _ 1 w fun x hx => (show_int (h x hx)).2) _)
theorem show_dWs {ws : List (List Int)} {b : Nat} (h : ∀ w ∈ ws, w.length ≤ b ∧ ∀ x ∈ w, Dig x) : PyData.showable (dWs ws) = true ∧ (PyData.shown (dWs ws)).length ≤ 2 + ws.length * (5 + b * 3) := by
  refine ⟨showAll_map dT ws fun w hw => (show_dT (h w hw).2).1, ?_⟩
  show (listText (PyData.shownAll (ws.map dT))).length ≤ _
  rw [shownAll_map]
  refine Nat.le_trans (listText_le _) (Nat.add_le_add_left (Nat.le_trans (lens_map _ (3 + b * 3) ws fun w hw => ?_) (Nat.mul_le_mul_left _ (by omega))) _)
  have h1 := (show_dT (h w hw).2).2
  have h2 := Nat.mul_le_mul_right 3 (h w hw).1
  omega
theorem show_bool (b : Bool) : PyData.showable (.bool b) = true ∧ (PyData.shown (.bool b)).length ≤ 5 := by
  cases b <;> exact ⟨rfl, by decide +kernel⟩
def dPr (a b : PyData) : PyData := .list [a, b]
theorem show_dPr {a b : PyData} {n m : Nat} (ha : PyData.showable a = true ∧ (PyData.shown a).length ≤ n) (hb : PyData.showable b = true ∧ (PyData.shown b).length ≤ m) : PyData.showable (dPr a b) = true ∧ (PyData.shown (dPr a b)).length ≤ 6 + n + m := by
  refine ⟨by show (PyData.showable a && (PyData.showable b && true)) = true; rw [ha.1, hb.1]; rfl, ?_⟩
  show (listText [PyData.shown a, PyData.shown b]).length ≤ _
  have := listText_le [PyData.shown a, PyData.shown b]
  have e : lens [PyData.shown a, PyData.shown b] = (PyData.shown a).length + 2 + ((PyData.shown b).length + 2 + 0) := rfl
  rw [e] at this
  have h1 := ha.2
  have h2 := hb.2
  omega
theorem dep_dWs (ws : List (List Int)) : PyData.depth (dWs ws) ≤ 2 := Nat.succ_le_succ (depAll_map dT dep_dT ws)
theorem dep_dPr {a b : PyData} {n : Nat} (ha : PyData.depth a ≤ n) (hb : PyData.depth b ≤ n) : PyData.depth (dPr a b) ≤ n + 1 := by
  show max (PyData.depth a) (max (PyData.depth b) 0) + 1 ≤ n + 1
  omega
theorem cnt2_dig {r : Int × List Int} {row works : List Int} (ho : RowOk r row) (h6 : r.1 ≤ 6) : Dig (cnt2 r row works) := by
  have h1 := List.length_filter_le (fun x => !decide (x ∈ works)) row
  have h2 := ho.2.2
  unfold cnt2 Dig
  dsimp only
  split <;> omega
section
variable {X : Cx}
/-- t + u, whatever is empty -/
def rCat1 (K : PySem.W.Frag) : R2 := fun x y H Q => ∃ a b xs ys, x = .ref a ∧ y = .ref b ∧ SqT K H a xs ∧ SqT K H b ys ∧ xs.length + ys.length ≤ sizeLine ∧ ∀ p H', Same H H' → SqT K H' p (xs ++ ys) → Q (.ref p) H'
theorem op_cat1 : OpR X (binaryOp .Add) (rCat1 X.K) := by
  intro pins s σ H x y v u Q I rx ry h
  obtain ⟨a, b, xs, ys, rfl, rfl, ha, hb, hz, q⟩ := h
  exact op_catA pins s σ H _ _ v u Q I rx ry ⟨a, b, xs, ys, rfl, rfl, ha, hb, hz, fun e => q b H (Same.refl H) (by rw [e]; exact hb), fun _ e => q a H (Same.refl H) (by rw [e, List.append_nil]; exact ha), fun _ _ p np => q p _ (sameU np) (.inl (.inl upd_same))⟩
end
end Ew
/-! Data in the heap by kinds; what an expression without effects gives (Ev). -/
namespace Ew
open PySem PySem.Spec PyProof.Rows L2
theorem flatI (l : List Int) : (l.map V.int).all flatV = true := by
  rw [List.all_map]
  exact List.all_eq_true.mpr fun _ _ => rfl
theorem inVI (i : Int) (l : List Int) : inV (.int i) (l.map V.int) = decide (i ∈ l) := by
  unfold inV
  rw [List.any_map]
  induction l with
  | nil => rfl
  | cons a l ih =>
    rw [List.any_cons, ih]
    have e : ((fun y => eqV y (V.int i)) ∘ V.int) a = decide (a = i) := by
      show eqV (V.int a) (V.int i) = _
      by_cases h : a = i
      · subst h
        simp [eqV]
      · simp [eqV, h]
    rw [e]
    by_cases h : a = i
    · subst h; simp
    · have h' : ¬ i = a := fun z => h z.symm
      simp [h, h']
theorem pLen {α β : Type} {R : α → β → Prop} : ∀ {xs : List α} {ys : List β}, Paired R xs ys → xs.length = ys.length
  | _, _, .nil => rfl
  | _, _, .cons _ t => by rw [List.length_cons, List.length_cons, pLen t]
theorem big_line : 1000000 < sizeLine := szl (Nat.le_refl _)
/-- objects that may be written: lists, dicts, instances of other classes -/
def Mv (C : Addr) : HO → Prop
  | .lst _ => True
  | .dK _ => True
  | .dT _ => True
  | .ins D _ _ => D ≠ C
  | _ => False
/-- the owned objects stand -/
def Fr (C : Addr) (S : List Addr) (H : Hp) : Prop := ∀ s ∈ S, ∃ o, H s = some o ∧ Mv C o
/-- all but the owned objects is as it was -/
structure Sx (C : Addr) (S : List Addr) (H H' : Hp) : Prop where
  old : ∀ (b : Addr) (o : HO), b ∉ S → H b = some o → (h : NT o := by first | trivial | assumption) → H' b = some o
  fr : Fr C S H'
  tab : ∀ (p : Addr) (q : Str), TabQ H p q → TabQ H' p q
/-- what may be written is no table and no code object -/
theorem Mv.nt {C : Addr} {o : HO} (h : Mv C o) : NT o := by
  cases o <;> first | exact trivial | exact h
theorem Mv.own {C : Addr} {H : Hp} {p : Addr} {o : HO} (h : Mv C o) (e : H p = some o) : OwnAt H p := ⟨o, e, h.nt, fun q z => by rw [z] at h; exact h⟩
section
variable {K : PySem.W.Frag} {C : Addr} {S T : List Addr} {H H' : Hp}
theorem Fr.same (h : Fr C S H) (s : Same H H') : Fr C S H' := fun a m => let ⟨o, e, w⟩ := h a m; ⟨o, s _ _ e w.nt, w⟩
theorem Fr.out (h : Fr C S H) {p : Addr} (n : H p = none) : p ∉ S := fun m => by
  obtain ⟨o, e, _⟩ := h p m
  rw [e] at n; cases n
theorem Fr.nil : Fr C [] H := fun _ m => nomatch m
theorem Fr.cons (h : Fr C S H) {p : Addr} {o : HO} (n : H p = none) (w : Mv C o) : Fr C (p :: S) (upd H p o) := fun a m => by
  rcases List.mem_cons.mp m with rfl | m
  · exact ⟨o, upd_same, w⟩
  · obtain ⟨u, e, q⟩ := h a m
    exact ⟨u, sameU n _ _ e q.nt, q⟩
theorem Fr.upd (h : Fr C S H) {p : Addr} {o : HO} (w : Mv C o) : Fr C S (upd H p o) := fun a m => by
  by_cases e : a = p
  · subst e
    exact ⟨o, upd_same, w⟩
  · obtain ⟨u, z, q⟩ := h a m
    exact ⟨u, by rw [upd_ne e]; exact z, q⟩
theorem Fr.less (h : Fr C S H) (s : ∀ a ∈ T, a ∈ S) : Fr C T H := fun a m => h a (s a m)
theorem Fr.tail {p : Addr} (h : Fr C (p :: S) H) : Fr C S H := h.less fun _ m => List.mem_cons_of_mem _ m
theorem sqT_sx (f : Fr C S H) (s : Sx C S H H') {t : Addr} {xs : List V} (h : SqT K H t xs) : SqT K H' t xs := by
  rcases h with (h | ⟨o, h⟩) | h
  · exact .inl (.inl (s.old _ _ (fun m => by obtain ⟨o, e, w⟩ := f _ m; rw [h] at e; cases e; exact w) h))
  · exact .inl (.inr ⟨o, s.old _ _ (fun m => by obtain ⟨o, e, w⟩ := f _ m; rw [h] at e; cases e; exact w) h⟩)
  · exact .inr h
theorem sx_upd {p : Addr} {o : HO} (f : Fr C S H) (m : p ∈ S) (w : Mv C o) : Sx C S H (upd H p o) := ⟨fun b u nb e _ => by rw [upd_ne (fun z => nb (by rw [z]; exact m))]; exact e, f.upd w, fun P q t => by
  obtain ⟨u, e, hu⟩ := f p m
  exact (hu.own e).tab t⟩
end
/-- a kind of data: how a value of it stands in the heap, away from the owned objects -/
structure Kd (K : PySem.W.Frag) (C : Addr) (α : Type) where
  rp : List Addr → Hp → V → α → Prop
  same : ∀ {S : List Addr} {H H' : Hp} {v : V} {x : α}, Same H H' → rp S H v x → rp S H' v x
  sx : ∀ {S : List Addr} {H H' : Hp} {v : V} {x : α}, Fr C S H → Sx C S H H' → rp S H v x → rp S H' v x
  new : ∀ {S : List Addr} {H : Hp} {p : Addr} {v : V} {x : α}, H p = none → rp S H v x → rp (p :: S) H v x
  less : ∀ {S T : List Addr} {H : Hp} {v : V} {x : α}, (∀ a ∈ T, a ∈ S) → rp S H v x → rp T H v x
section
variable {K : PySem.W.Frag} {C : Addr} {α β γ δ : Type}
def kI : Kd K C Int := ⟨fun _ _ v x => v = .int x, fun _ h => h, fun _ _ h => h, fun _ h => h, fun _ h => h⟩
def kB : Kd K C Bool := ⟨fun _ _ v x => v = .bl x, fun _ h => h, fun _ _ h => h, fun _ h => h, fun _ h => h⟩
def kN : Kd K C Unit := ⟨fun _ _ v _ => v = .non, fun _ h => h, fun _ _ h => h, fun _ h => h, fun _ h => h⟩
def kS : Kd K C Str := ⟨fun _ _ v x => v = .str x, fun _ h => h, fun _ _ h => h, fun _ h => h, fun _ h => h⟩
/-- the value itself -/
def kV : Kd K C V := ⟨fun _ _ v x => v = x, fun _ h => h, fun _ _ h => h, fun _ h => h, fun _ h => h⟩
/-- None, or .. -/
def kO (k : Kd K C α) : Kd K C (Option α) where
  rp S H v x := match x with
    | none => v = .non
    | some y => k.rp S H v y
  same {S H H' v x} s h := by cases x with
    | none => exact h
    | some y => exact k.same s h
  sx {S H H' v x} f s h := by cases x with
    | none => exact h
    | some y => exact k.sx f s h
  new {S H p v x} n h := by cases x with
    | none => exact h
    | some y => exact k.new n h
  less {S T H v x} m h := by cases x with
    | none => exact h
    | some y => exact k.less m h
/-- a list -/
def kL (k : Kd K C α) : Kd K C (List α) where
  rp S H v l := ∃ a vs, v = .ref a ∧ a ∉ S ∧ H a = some (.lst vs) ∧ Paired (k.rp S H) vs l ∧ l.length ≤ 1000000
  same s h := let ⟨a, vs, e, n, h1, h2, h3⟩ := h; ⟨a, vs, e, n, s _ _ h1, L2.Paired.mapP h2 fun _ _ z => k.same s z, h3⟩
  sx f s h := let ⟨a, vs, e, n, h1, h2, h3⟩ := h; ⟨a, vs, e, n, s.old _ _ n h1, L2.Paired.mapP h2 fun _ _ z => k.sx f s z, h3⟩
  new {S H p v x} hn h := by
    obtain ⟨a, vs, e, n, h1, h2, h3⟩ := h
    refine ⟨a, vs, e, fun m => ?_, h1, L2.Paired.mapP h2 fun _ _ z => k.new hn z, h3⟩
    rcases List.mem_cons.mp m with rfl | m
    · rw [hn] at h1; cases h1
    · exact n m
  less m h := let ⟨a, vs, e, n, h1, h2, h3⟩ := h; ⟨a, vs, e, fun z => n (m _ z), h1, L2.Paired.mapP h2 fun _ _ z => k.less m z, h3⟩
/-- a tuple, as a row of things -/
def kT (k : Kd K C α) : Kd K C (List α) where
  rp S H v l := ∃ a vs, v = .ref a ∧ SqT K H a vs ∧ Paired (k.rp S H) vs l ∧ l.length ≤ 1000000
  same s h := let ⟨a, vs, e, h1, h2, h3⟩ := h; ⟨a, vs, e, sameT s h1, L2.Paired.mapP h2 fun _ _ z => k.same s z, h3⟩
  sx f s h := let ⟨a, vs, e, h1, h2, h3⟩ := h; ⟨a, vs, e, sqT_sx f s h1, L2.Paired.mapP h2 fun _ _ z => k.sx f s z, h3⟩
  new hn h := let ⟨a, vs, e, h1, h2, h3⟩ := h; ⟨a, vs, e, h1, L2.Paired.mapP h2 fun _ _ z => k.new hn z, h3⟩
  less m h := let ⟨a, vs, e, h1, h2, h3⟩ := h; ⟨a, vs, e, h1, L2.Paired.mapP h2 fun _ _ z => k.less m z, h3⟩
/-- tuples of two, three, four -/
def kP (k : Kd K C α) (l : Kd K C β) : Kd K C (α × β) where
  rp S H v x := ∃ t v1 v2, v = .ref t ∧ SqT K H t [v1, v2] ∧ k.rp S H v1 x.1 ∧ l.rp S H v2 x.2
  same s h := let ⟨t, v1, v2, e, q, h1, h2⟩ := h; ⟨t, v1, v2, e, sameT s q, k.same s h1, l.same s h2⟩
  sx f s h := let ⟨t, v1, v2, e, q, h1, h2⟩ := h; ⟨t, v1, v2, e, sqT_sx f s q, k.sx f s h1, l.sx f s h2⟩
  new n h := let ⟨t, v1, v2, e, q, h1, h2⟩ := h; ⟨t, v1, v2, e, q, k.new n h1, l.new n h2⟩
  less m h := let ⟨t, v1, v2, e, q, h1, h2⟩ := h; ⟨t, v1, v2, e, q, k.less m h1, l.less m h2⟩
def k3 (k : Kd K C α) (l : Kd K C β) (m : Kd K C γ) : Kd K C (α × β × γ) where
  rp S H v x := ∃ t v1 v2 v3, v = .ref t ∧ SqT K H t [v1, v2, v3] ∧ k.rp S H v1 x.1 ∧ l.rp S H v2 x.2.1 ∧ m.rp S H v3 x.2.2
  same s h := let ⟨t, v1, v2, v3, e, q, h1, h2, h3⟩ := h; ⟨t, v1, v2, v3, e, sameT s q, k.same s h1, l.same s h2, m.same s h3⟩
  sx f s h := let ⟨t, v1, v2, v3, e, q, h1, h2, h3⟩ := h; ⟨t, v1, v2, v3, e, sqT_sx f s q, k.sx f s h1, l.sx f s h2, m.sx f s h3⟩
  new n h := let ⟨t, v1, v2, v3, e, q, h1, h2, h3⟩ := h; ⟨t, v1, v2, v3, e, q, k.new n h1, l.new n h2, m.new n h3⟩
  less z h := let ⟨t, v1, v2, v3, e, q, h1, h2, h3⟩ := h; ⟨t, v1, v2, v3, e, q, k.less z h1, l.less z h2, m.less z h3⟩
def k4 (k : Kd K C α) (l : Kd K C β) (m : Kd K C γ) (o : Kd K C δ) : Kd K C (α × β × γ × δ) where
  rp S H v x := ∃ t v1 v2 v3 v4, v = .ref t ∧ SqT K H t [v1, v2, v3, v4] ∧ k.rp S H v1 x.1 ∧ l.rp S H v2 x.2.1 ∧ m.rp S H v3 x.2.2.1 ∧ o.rp S H v4 x.2.2.2
  same s h := let ⟨t, v1, v2, v3, v4, e, q, h1, h2, h3, h4⟩ := h; ⟨t, v1, v2, v3, v4, e, sameT s q, k.same s h1, l.same s h2, m.same s h3, o.same s h4⟩
  sx f s h := let ⟨t, v1, v2, v3, v4, e, q, h1, h2, h3, h4⟩ := h; ⟨t, v1, v2, v3, v4, e, sqT_sx f s q, k.sx f s h1, l.sx f s h2, m.sx f s h3, o.sx f s h4⟩
  new n h := let ⟨t, v1, v2, v3, v4, e, q, h1, h2, h3, h4⟩ := h; ⟨t, v1, v2, v3, v4, e, q, k.new n h1, l.new n h2, m.new n h3, o.new n h4⟩
  less z h := let ⟨t, v1, v2, v3, v4, e, q, h1, h2, h3, h4⟩ := h; ⟨t, v1, v2, v3, v4, e, q, k.less z h1, l.less z h2, m.less z h3, o.less z h4⟩
/-- (word, one of two) -/
def kW (a b : Str) (k : Kd K C α) (l : Kd K C β) : Kd K C (α ⊕ β) where
  rp S H v x := ∃ t w, v = .ref t ∧ (match x with
    | .inl y => SqT K H t [.str a, w] ∧ k.rp S H w y
    | .inr y => SqT K H t [.str b, w] ∧ l.rp S H w y)
  same {S H H' v x} s h := by
    obtain ⟨t, w, e, q⟩ := h
    cases x with
    | inl y => exact ⟨t, w, e, sameT s q.1, k.same s q.2⟩
    | inr y => exact ⟨t, w, e, sameT s q.1, l.same s q.2⟩
  sx {S H H' v x} f s h := by
    obtain ⟨t, w, e, q⟩ := h
    cases x with
    | inl y => exact ⟨t, w, e, sqT_sx f s q.1, k.sx f s q.2⟩
    | inr y => exact ⟨t, w, e, sqT_sx f s q.1, l.sx f s q.2⟩
  new {S H p v x} n h := by
    obtain ⟨t, w, e, q⟩ := h
    cases x with
    | inl y => exact ⟨t, w, e, q.1, k.new n q.2⟩
    | inr y => exact ⟨t, w, e, q.1, l.new n q.2⟩
  less {S T H v x} m h := by
    obtain ⟨t, w, e, q⟩ := h
    cases x with
    | inl y => exact ⟨t, w, e, q.1, k.less m q.2⟩
    | inr y => exact ⟨t, w, e, q.1, l.less m q.2⟩
end
/-- rows -/
abbrev kWs {K : PySem.W.Frag} {C : Addr} : Kd K C (List (List Int)) := kL (kT kI)
/-- facts of data go over -/
structure Lf (K : PySem.W.Frag) (C : Addr) (S : List Addr) (H : Hp) (S' : List Addr) (H' : Hp) : Prop where
  go : ∀ {α : Type} (k : Kd K C α) (v : V) (x : α), k.rp S H v x → k.rp S' H' v x
  tab : ∀ (p : Addr) (q : Str), TabQ H p q → TabQ H' p q
section
variable {K : PySem.W.Frag} {C : Addr} {S S1 S2 T : List Addr} {H H1 H2 : Hp}
theorem Lf.refl : Lf K C S H S H := ⟨fun _ _ _ h => h, fun _ _ t => t⟩
theorem Lf.trans (a : Lf K C S H S1 H1) (b : Lf K C S1 H1 S2 H2) : Lf K C S H S2 H2 := ⟨fun k v x h => b.go k v x (a.go k v x h), fun p q t => b.tab p q (a.tab p q t)⟩
theorem Lf.same (s : Same H H1) : Lf K C S H S H1 := ⟨fun k v x h => k.same s h, s.tab⟩
theorem Lf.sx (f : Fr C S H) (s : Sx C S H H1) : Lf K C S H S H1 := ⟨fun k v x h => k.sx f s h, s.tab⟩
theorem Lf.less (m : ∀ a ∈ T, a ∈ S) : Lf K C S H T H := ⟨fun k v x h => k.less m h, fun _ _ t => t⟩
theorem Lf.own {p : Addr} {o : HO} (n : H p = none) : Lf K C S H (p :: S) (upd H p o) := ⟨fun k v x h => k.same (sameU n) (k.new n h), (sameU n).tab⟩
theorem Lf.new {p : Addr} (n : H p = none) : Lf K C S H (p :: S) H := ⟨fun k v x h => k.new n h, fun _ _ t => t⟩
end
/-! ### what an expression gives -/
section
variable {K : PySem.W.Frag} {C : Addr} {α β γ δ τ : Type}
def Ev (k : Kd K C α) (S : List Addr) (H : Hp) (t : TE) (σ : L2.St) (x : α) : Prop := ∀ H1, Same H H1 → ∀ Q : VK, (∀ v H2, Same H1 H2 → k.rp S H2 v x → Q v H2) → t σ H1 Q
/-- a new object -/
def EvN (k : Kd K C α) (S : List Addr) (H : Hp) (t : TE) (σ : L2.St) (x : α) : Prop := ∀ H1, Same H H1 → ∀ Q : VK, (∀ p H2, H1 p = none → Same H1 H2 → k.rp S H2 (.ref p) x → Q (.ref p) H2) → t σ H1 Q
def EvT (H : Hp) (t : TT) (σ : L2.St) (b : Bool) : Prop := ∀ H1, Same H H1 → ∀ Q : Bool → Hp → Prop, (∀ H2, Same H1 H2 → Q b H2) → t σ H1 Q
/-- kinds of arguments -/
structure Ka (K : PySem.W.Frag) (C : Addr) (τ : Type) where
  rps : List Addr → Hp → List V → τ → Prop
  n : Nat
  len : ∀ {S : List Addr} {H : Hp} {vs : List V} {x : τ}, rps S H vs x → vs.length = n
  same : ∀ {S : List Addr} {H H' : Hp} {vs : List V} {x : τ}, Same H H' → rps S H vs x → rps S H' vs x
def aN : Ka K C Unit := ⟨fun _ _ vs _ => vs = [], 0, fun h => by rw [h]; rfl, fun _ h => h⟩
def aC (k : Kd K C α) (ks : Ka K C τ) : Ka K C (α × τ) := ⟨fun S H vs x => ∃ v r, vs = v :: r ∧ k.rp S H v x.1 ∧ ks.rps S H r x.2, ks.n + 1, fun ⟨v, r, e, _, h⟩ => by rw [e, List.length_cons, ks.len h],
  fun s ⟨v, r, e, h1, h2⟩ => ⟨v, r, e, k.same s h1, ks.same s h2⟩⟩
def EvA (ks : Ka K C τ) (S : List Addr) (H : Hp) (t : TA) (σ : L2.St) (x : τ) : Prop := ∀ H1, Same H H1 → ∀ Q : List V → Hp → Prop, (∀ vs H2, Same H1 H2 → ks.rps S H2 vs x → Q vs H2) → t σ H1 Q
/-- what is walked gives l -/
structure Wk (k : Kd K C α) (S : List Addr) (J : It) (H : Hp) (l : List α) : Prop where
  go : ∀ i S' H', Lf K C S H S' H' → i < l.length → J.go i H'
  yld : ∀ i S' H' v H'' x, Lf K C S H S' H' → l[i]? = some x → J.yld i H' v H'' → Same H' H'' ∧ k.rp S' H'' v x
  stop : ∀ i S' H', Lf K C S H S' H' → l.length ≤ i → J.stop i H'
def EvI (k : Kd K C α) (S : List Addr) (H : Hp) (wi : TI) (σ : L2.St) (l : List α) : Prop := ∀ H1, Same H H1 → ∀ R : It → Hp → Prop, (∀ J H2, Same H1 H2 → Wk k S J H2 l → R J H2) → wi σ H1 R
variable {k : Kd K C α} {k1 : Kd K C β} {k2 : Kd K C γ} {S S' : List Addr} {H H0 : Hp} {σ : L2.St} {t ta tb tc : TE} {tt tu : TT} {x : α}
theorem EvN.ev (h : EvN k S H t σ x) : Ev k S H t σ x := fun H1 s Q q => h H1 s Q fun p H2 _ s2 r => q _ H2 s2 r
theorem Ev.use {Q : VK} (h : Ev k S H t σ x) (q : ∀ v H2, Same H H2 → k.rp S H2 v x → Q v H2) : t σ H Q := h H (Same.refl H) Q q
theorem EvN.use {Q : VK} (h : EvN k S H t σ x) (q : ∀ p H2, H p = none → Same H H2 → k.rp S H2 (.ref p) x → Q (.ref p) H2) : t σ H Q := h H (Same.refl H) Q q
theorem EvT.use {Q : Bool → Hp → Prop} {b : Bool} (h : EvT H tt σ b) (q : ∀ H2, Same H H2 → Q b H2) : tt σ H Q := h H (Same.refl H) Q q
theorem EvI.use {R : It → Hp → Prop} {l : List α} {wi : TI} (h : EvI k S H wi σ l) (q : ∀ J H2, Same H H2 → Wk k S J H2 l → R J H2) : wi σ H R := h H (Same.refl H) R q
theorem EvA.use {ks : Ka K C τ} {y : τ} {ta : TA} {Q : List V → Hp → Prop} (h : EvA ks S H ta σ y) (q : ∀ vs H2, Same H H2 → ks.rps S H2 vs y → Q vs H2) : ta σ H Q := h H (Same.refl H) Q q
theorem Ev.to {x' : α} (h : Ev k S H t σ x) (e : x = x') : Ev k S H t σ x' := e ▸ h
theorem EvN.to {x' : α} (h : EvN k S H t σ x) (e : x = x') : EvN k S H t σ x' := e ▸ h
theorem EvT.to {b b' : Bool} (h : EvT H tt σ b) (e : b = b') : EvT H tt σ b' := e ▸ h
theorem EvI.to {l l' : List α} {wi : TI} (h : EvI k S H wi σ l) (e : l = l') : EvI k S H wi σ l' := e ▸ h
theorem Ev.mono {H' : Hp} (s : Same H H') (h : Ev k S H t σ x) : Ev k S H' t σ x := fun H1 s1 => h H1 (s.trans s1)
theorem EvT.mono {H' : Hp} {b : Bool} (s : Same H H') (h : EvT H tt σ b) : EvT H' tt σ b := fun H1 s1 => h H1 (s.trans s1)
theorem ev_var {i : Nat} {v : V} (e : σ[i]? = some (some v)) (h : k.rp S' H0 v x) (l : Lf K C S' H0 S H) : Ev k S H (tVar i) σ x := fun H1 s Q q => ⟨v, e, q v H1 (Same.refl _) (k.same s (l.go k v x h))⟩
theorem ev_int {i : Int} : Ev (K := K) (C := C) kI S H (tC (.int i)) σ i := fun H1 _ Q q => q _ H1 (Same.refl _) rfl
theorem ev_bl {b : Bool} : Ev (K := K) (C := C) kB S H (tC (.bl b)) σ b := fun H1 _ Q q => q _ H1 (Same.refl _) rfl
theorem ev_non : Ev (K := K) (C := C) kN S H (tC .non) σ () := fun H1 _ Q q => q _ H1 (Same.refl _) rfl
theorem ev_str {z : Str} : Ev (K := K) (C := C) kS S H (tC (.str z)) σ z := fun H1 _ Q q => q _ H1 (Same.refl _) rfl
/-- a value stands for one that may be None -/
theorem ev_some (h : Ev k S H t σ x) : Ev (kO k) S H t σ (some x) := fun H1 s Q q => h H1 s Q fun v H2 s2 r => q v H2 s2 r
theorem ev_none : Ev (kO k) S H (tC .non) σ none := fun H1 _ Q q => q _ H1 (Same.refl _) rfl
/-- two operands -/
theorem ev_op2 {y : β} {z : γ} {r : R2} (ha : Ev k S H ta σ x) (hb : Ev k1 S H tb σ y) (hr : ∀ v w H1, Same H H1 → k.rp S H1 v x → k1.rp S H1 w y → ∀ Q : VK, (∀ u H2, Same H1 H2 → k2.rp S H2 u z → Q u H2) → r v w H1 Q) : Ev k2 S H (tOp r ta tb) σ z := fun H1 s Q q =>
  ha H1 s _ fun v H2 s2 rv => hb H2 (s.trans s2) _ fun w H3 s3 rw_ => hr v w H3 (s.trans (s2.trans s3)) (k.same s3 rv) rw_ Q fun u H4 s4 ru => q u H4 (s2.trans (s3.trans s4)) ru
theorem ev_I2 {f : Int → Int → Int} {i j : Int} (ha : Ev (K := K) (C := C) kI S H ta σ i) (hb : Ev (K := K) (C := C) kI S H tb σ j) : Ev (K := K) (C := C) kI S H (tOp (rI0 fun i j => .int (f i j)) ta tb) σ (f i j) :=
  ev_op2 ha hb fun v w H1 _ e1 e2 Q q => ⟨i, j, e1, e2, q _ H1 (Same.refl _) rfl⟩
theorem ev_B2 {f : Int → Int → Bool} {i j : Int} (ha : Ev (K := K) (C := C) kI S H ta σ i) (hb : Ev (K := K) (C := C) kI S H tb σ j) : Ev (K := K) (C := C) kB S H (tOp (rI0 fun i j => .bl (f i j)) ta tb) σ (f i j) :=
  ev_op2 ha hb fun v w H1 _ e1 e2 Q q => ⟨i, j, e1, e2, q _ H1 (Same.refl _) rfl⟩
theorem ev_I2c {P : Int → Int → Prop} {f : Int → Int → Int} {i j : Int} (ha : Ev (K := K) (C := C) kI S H ta σ i) (hb : Ev (K := K) (C := C) kI S H tb σ j) (hc : P i j) : Ev (K := K) (C := C) kI S H (tOp (rI P fun i j => .int (f i j)) ta tb) σ (f i j) :=
  ev_op2 ha hb fun v w H1 _ e1 e2 Q q => ⟨i, j, e1, e2, hc, q _ H1 (Same.refl _) rfl⟩
theorem ev_eqI {i j : Int} (ha : Ev (K := K) (C := C) kI S H ta σ i) (hb : Ev (K := K) (C := C) kI S H tb σ j) : Ev (K := K) (C := C) kB S H (tOp rEq ta tb) σ (decide (i = j)) :=
  ev_op2 ha hb fun v w H1 _ e1 e2 Q q => ⟨by rw [e1, e2]; rfl, q _ H1 (Same.refl _) (by rw [e1, e2]; show V.bl _ = V.bl _; first | (congr 1; done) | (congr 1; simp))⟩
theorem ev_neI {i j : Int} (ha : Ev (K := K) (C := C) kI S H ta σ i) (hb : Ev (K := K) (C := C) kI S H tb σ j) : Ev (K := K) (C := C) kB S H (tOp rNe ta tb) σ (!decide (i = j)) :=
  ev_op2 ha hb fun v w H1 _ e1 e2 Q q => ⟨by rw [e1, e2]; rfl, q _ H1 (Same.refl _) (by rw [e1, e2]; show V.bl _ = V.bl _; first | (congr 2; done) | (congr 2; simp))⟩
theorem ev_eqS {i j : Str} (ha : Ev (K := K) (C := C) kS S H ta σ i) (hb : Ev (K := K) (C := C) kS S H tb σ j) : Ev (K := K) (C := C) kB S H (tOp rEq ta tb) σ (decide (i = j)) :=
  ev_op2 ha hb fun v w H1 _ e1 e2 Q q => ⟨by rw [e1, e2]; rfl, q _ H1 (Same.refl _) (by rw [e1, e2]; show V.bl _ = V.bl _; first | (congr 1; done) | (congr 1; simp))⟩
theorem ev_neS {i j : Str} (ha : Ev (K := K) (C := C) kS S H ta σ i) (hb : Ev (K := K) (C := C) kS S H tb σ j) : Ev (K := K) (C := C) kB S H (tOp rNe ta tb) σ (!decide (i = j)) :=
  ev_op2 ha hb fun v w H1 _ e1 e2 Q q => ⟨by rw [e1, e2]; rfl, q _ H1 (Same.refl _) (by rw [e1, e2]; show V.bl _ = V.bl _; first | (congr 2; done) | (congr 2; simp))⟩
/-- an int beside an int or None -/
theorem ev_neO {i : Int} {j : Option Int} (ha : Ev (K := K) (C := C) kI S H ta σ i) (hb : Ev (K := K) (C := C) (kO kI) S H tb σ j) : Ev (K := K) (C := C) kB S H (tOp rNe ta tb) σ (!decide (some i = j)) :=
  ev_op2 ha hb fun v w H1 _ e1 e2 Q q => by
    cases j with
    | none =>
      have e2 : w = .non := e2
      exact ⟨by rw [e1, e2]; rfl, q _ H1 (Same.refl _) (by rw [e1, e2]; show V.bl _ = V.bl _; first | (congr 2; done) | (congr 2; simp))⟩
    | some j =>
      have e2 : w = .int j := e2
      exact ⟨by rw [e1, e2]; rfl, q _ H1 (Same.refl _) (by rw [e1, e2]; show V.bl _ = V.bl _; first | (congr 2; done) | (congr 2; simp))⟩
theorem ints_paired : ∀ {vs : List V} {l : List Int}, Paired ((kI (K := K) (C := C)).rp S H) vs l → vs = l.map V.int
  | _, _, .nil => rfl
  | _, _, .cons h t => by
    have h : _ = V.int _ := h
    rw [h, ints_paired t]
    rfl
theorem paired_ints : ∀ (l : List Int), Paired ((kI (K := K) (C := C)).rp S H) (l.map V.int) l
  | [] => .nil
  | _ :: l => .cons rfl (paired_ints l)
theorem kL_len {v : V} {l : List α} (h : (kL k).rp S H v l) : l.length ≤ 1000000 := let ⟨_, _, _, _, _, _, b⟩ := h; b
theorem kT_len {v : V} {l : List α} (h : (kT k).rp S H v l) : l.length ≤ 1000000 := let ⟨_, _, _, _, _, b⟩ := h; b
theorem kL_mem {v : V} {l : List α} (h : (kL k).rp S H v l) : ∀ x ∈ l, ∃ w, k.rp S H w x := by
  obtain ⟨_, vs, _, _, _, p, _⟩ := h
  intro x hx
  obtain ⟨i, hi, e⟩ := List.mem_iff_getElem.mp hx
  obtain ⟨u, _, r⟩ := Paired.at2 p (show l[i]? = some x by rw [List.getElem?_eq_getElem hi, e])
  exact ⟨u, r⟩
theorem kWs_len {v : V} {l : List (List α)} (h : (kL (kT k)).rp S H v l) : ∀ x ∈ l, x.length ≤ 1000000 := fun x hx => let ⟨_, r⟩ := kL_mem h x hx; kT_len r
theorem kL_ints {v : V} {l : List Int} (h : (kL (kI (K := K) (C := C))).rp S H v l) : ∃ a, v = .ref a ∧ a ∉ S ∧ H a = some (.lst (l.map V.int)) ∧ l.length ≤ 1000000 := by
  obtain ⟨a, vs, e, n, h1, h2, h3⟩ := h
  exact ⟨a, e, n, by rw [h1, ints_paired h2], h3⟩
theorem kT_ints {v : V} {l : List Int} (h : (kT (kI (K := K) (C := C))).rp S H v l) : ∃ a, v = .ref a ∧ SqT K H a (l.map V.int) ∧ l.length ≤ 1000000 := by
  obtain ⟨a, vs, e, h1, h2, h3⟩ := h
  exact ⟨a, e, by rw [← ints_paired h2]; exact h1, h3⟩
theorem rT_ints {v : V} {l : List Int} (h : RowT K H v l) (b : l.length ≤ 1000000) : (kT (kI (K := K) (C := C))).rp S H v l := let ⟨t, e, q⟩ := h; ⟨t, _, e, q, paired_ints l, b⟩
theorem ev_inT {i : Int} {l : List Int} (ha : Ev (K := K) (C := C) kI S H ta σ i) (hb : Ev (K := K) (C := C) (kT kI) S H tb σ l) : Ev (K := K) (C := C) kB S H (tOp (rIn K false) ta tb) σ (decide (i ∈ l)) :=
  ev_op2 ha hb fun v w H1 _ e1 e2 Q q => by
    obtain ⟨a, rfl, h, _⟩ := kT_ints e2
    refine ⟨a, _, rfl, .inr h, by rw [e1]; rfl, flatI l, ?_⟩
    rw [e1, if_neg Bool.false_ne_true, inVI]
    exact q _ H1 (Same.refl _) rfl
theorem ev_ninT {i : Int} {l : List Int} (ha : Ev (K := K) (C := C) kI S H ta σ i) (hb : Ev (K := K) (C := C) (kT kI) S H tb σ l) : Ev (K := K) (C := C) kB S H (tOp (rIn K true) ta tb) σ (!decide (i ∈ l)) :=
  ev_op2 ha hb fun v w H1 _ e1 e2 Q q => by
    obtain ⟨a, rfl, h, _⟩ := kT_ints e2
    refine ⟨a, _, rfl, .inr h, by rw [e1]; rfl, flatI l, ?_⟩
    rw [e1, if_pos rfl, inVI]
    exact q _ H1 (Same.refl _) rfl
theorem ev_inL {i : Int} {l : List Int} (ha : Ev (K := K) (C := C) kI S H ta σ i) (hb : Ev (K := K) (C := C) (kL kI) S H tb σ l) : Ev (K := K) (C := C) kB S H (tOp (rIn K false) ta tb) σ (decide (i ∈ l)) :=
  ev_op2 ha hb fun v w H1 _ e1 e2 Q q => by
    obtain ⟨a, rfl, _, h, _⟩ := kL_ints e2
    refine ⟨a, _, rfl, .inl (.inl (.inl h)), by rw [e1]; rfl, flatI l, ?_⟩
    rw [e1, if_neg Bool.false_ne_true, inVI]
    exact q _ H1 (Same.refl _) rfl
theorem ev_ninL {i : Int} {l : List Int} (ha : Ev (K := K) (C := C) kI S H ta σ i) (hb : Ev (K := K) (C := C) (kL kI) S H tb σ l) : Ev (K := K) (C := C) kB S H (tOp (rIn K true) ta tb) σ (!decide (i ∈ l)) :=
  ev_op2 ha hb fun v w H1 _ e1 e2 Q q => by
    obtain ⟨a, rfl, _, h, _⟩ := kL_ints e2
    refine ⟨a, _, rfl, .inl (.inl (.inl h)), by rw [e1]; rfl, flatI l, ?_⟩
    rw [e1, if_pos rfl, inVI]
    exact q _ H1 (Same.refl _) rfl
/-- the item at i -/
def at_ {α : Type} [Inhabited α] (l : List α) (i : Int) : α := l.getD i.toNat default
theorem at_get {α : Type} [Inhabited α] {l : List α} {i : Int} (h : 0 ≤ i ∧ i < l.length) : l[i.toNat]? = some (at_ l i) := by
  have h2 : i.toNat < l.length := by omega
  unfold at_
  rw [List.getD_eq_getElem?_getD, List.getElem?_eq_getElem h2]
  rfl
theorem at_mem {α : Type} [Inhabited α] {l : List α} {i : Int} (h : 0 ≤ i ∧ i < l.length) : at_ l i ∈ l := List.mem_of_getElem? (at_get h)
theorem atI_at [Inhabited α] {l : List α} {i : Int} {vs : List V} {R : V → α → Prop} (p : Paired R vs l) (h : 0 ≤ i ∧ i < l.length) : ∃ v, atI vs i = some v ∧ R v (at_ l i) := by
  obtain ⟨v, e, r⟩ := Paired.at2 p (at_get h)
  refine ⟨v, ?_, r⟩
  obtain ⟨j, rfl⟩ : ∃ j : Nat, i = (j : Int) := ⟨i.toNat, by omega⟩
  exact atI_nat (by simpa using e)
theorem ev_ixL [Inhabited α] {l : List α} {i : Int} (ha : Ev (kL k) S H ta σ l) (hb : Ev (K := K) (C := C) kI S H tb σ i) (hc : 0 ≤ i ∧ i < l.length) : Ev k S H (tOp (rIxL K) ta tb) σ (at_ l i) :=
  ev_op2 ha hb fun v w H1 _ e1 e2 Q q => by
    obtain ⟨a, vs, rfl, _, h, p, _⟩ := e1
    obtain ⟨u, hu, r⟩ := atI_at p hc
    exact ⟨a, vs, i, u, rfl, e2, .inl (.inl h), hu, q _ H1 (Same.refl _) r⟩
theorem ev_ixT [Inhabited α] {l : List α} {i : Int} (ha : Ev (kT k) S H ta σ l) (hb : Ev (K := K) (C := C) kI S H tb σ i) (hc : 0 ≤ i ∧ i < l.length) : Ev k S H (tOp (rIxT K) ta tb) σ (at_ l i) :=
  ev_op2 ha hb fun v w H1 _ e1 e2 Q q => by
    obtain ⟨a, vs, rfl, h, p, _⟩ := e1
    obtain ⟨u, hu, r⟩ := atI_at p hc
    exact ⟨a, vs, i, u, rfl, e2, h, hu, q _ H1 (Same.refl _) r⟩
theorem ev_fst {y : α × β} (ha : Ev (kP k k1) S H ta σ y) : Ev k S H (tOp (rIxT K) ta (tC (.int 0))) σ y.1 :=
  ev_op2 ha ev_int fun v w H1 _ e1 e2 Q q => by
    obtain ⟨t, v1, v2, rfl, h, r1, r2⟩ := e1
    exact ⟨t, _, 0, v1, rfl, e2, h, rfl, q _ H1 (Same.refl _) r1⟩
theorem ev_snd {y : α × β} (ha : Ev (kP k k1) S H ta σ y) : Ev k1 S H (tOp (rIxT K) ta (tC (.int 1))) σ y.2 :=
  ev_op2 ha ev_int fun v w H1 _ e1 e2 Q q => by
    obtain ⟨t, v1, v2, rfl, h, r1, r2⟩ := e1
    exact ⟨t, _, 1, v2, rfl, e2, h, rfl, q _ H1 (Same.refl _) r2⟩
/-! arguments -/
theorem eva_nil : EvA (K := K) (C := C) aN S H tNil σ () := fun H1 _ Q q => q [] H1 (Same.refl _) rfl
theorem eva_cons {ks : Ka K C τ} {y : τ} {ta' : TA} (ha : Ev k S H ta σ x) (hb : EvA ks S H ta' σ y) : EvA (aC k ks) S H (tCons ta ta') σ (x, y) := fun H1 s Q q =>
  ha H1 s _ fun v H2 s2 r => hb H2 (s.trans s2) _ fun vs H3 s3 rs => q _ H3 (s2.trans s3) ⟨v, vs, rfl, k.same s3 r, rs⟩
/-- a built-in by its values -/
theorem ev_cb {ks : Ka K C τ} {y : τ} {z : γ} {ta' : TA} {r : List V → Hp → VK → Prop} (ha : EvA ks S H ta' σ y) (hr : ∀ vs H1, Same H H1 → ks.rps S H1 vs y → ∀ Q : VK, (∀ u H2, Same H1 H2 → k2.rp S H2 u z → Q u H2) → r vs H1 Q) : Ev k2 S H (tCB r ta') σ z := fun H1 s Q q =>
  ha H1 s _ fun vs H2 s2 rv => hr vs H2 (s.trans s2) rv Q fun u H4 s4 ru => q u H4 (s2.trans s4) ru
theorem evn_cb {ks : Ka K C τ} {y : τ} {z : γ} {ta' : TA} {r : List V → Hp → VK → Prop} (ha : EvA ks S H ta' σ y) (hr : ∀ vs H1, Same H H1 → ks.rps S H1 vs y → ∀ Q : VK, (∀ p H2, H1 p = none → Same H1 H2 → k2.rp S H2 (.ref p) z → Q (.ref p) H2) → r vs H1 Q) : EvN k2 S H (tCB r ta') σ z := fun H1 s Q q =>
  ha H1 s _ fun vs H2 s2 rv => hr vs H2 (s.trans s2) rv Q fun u H4 n s4 ru => q u H4 (s2.free n) (s2.trans s4) ru
abbrev rLen (K : PySem.W.Frag) : List V → Hp → VK → Prop := fun xs H Q => ∃ p ys, xs = [.ref p] ∧ (SqL K H p ys ∨ SqT K H p ys) ∧ Q (.int ys.length) H
theorem ev_lenL {l : List α} (ha : Ev (kL k) S H ta σ l) : Ev (K := K) (C := C) kI S H (tCB (rLen K) (tCons ta tNil)) σ (l.length : Nat) :=
  ev_cb (eva_cons ha eva_nil) fun vs H1 _ rv Q q => by
    obtain ⟨v, r, rfl, ⟨a, us, rfl, _, h, p, _⟩, e⟩ := rv
    cases (show r = [] from e)
    exact ⟨a, us, rfl, .inl (.inl (.inl h)), q _ H1 (Same.refl _) (by rw [pLen p]; rfl)⟩
theorem ev_lenT {l : List α} (ha : Ev (kT k) S H ta σ l) : Ev (K := K) (C := C) kI S H (tCB (rLen K) (tCons ta tNil)) σ (l.length : Nat) :=
  ev_cb (eva_cons ha eva_nil) fun vs H1 _ rv Q q => by
    obtain ⟨v, r, rfl, ⟨a, us, rfl, h, p, _⟩, e⟩ := rv
    cases (show r = [] from e)
    exact ⟨a, us, rfl, .inr h, q _ H1 (Same.refl _) (by rw [pLen p]; rfl)⟩
theorem ev_sum {l : List Int} (ha : Ev (K := K) (C := C) (kL kI) S H ta σ l) : Ev (K := K) (C := C) kI S H (tCB (rSum K) (tCons ta tNil)) σ l.sum :=
  ev_cb (eva_cons ha eva_nil) fun vs H1 _ rv Q q => by
    obtain ⟨v, r, rfl, h, e⟩ := rv
    obtain ⟨a, rfl, _, h, _⟩ := kL_ints h
    cases (show r = [] from e)
    exact ⟨a, l, rfl, .inl (.inl h), q _ H1 (Same.refl _) rfl⟩
theorem bls_paired : ∀ {vs : List V} {l : List Bool}, Paired ((kB (K := K) (C := C)).rp S H) vs l → vs = l.map V.bl
  | _, _, .nil => rfl
  | _, _, .cons h t => by
    have h : _ = V.bl _ := h
    rw [h, bls_paired t]
    rfl
theorem ev_all {l : List Bool} (ha : Ev (K := K) (C := C) (kL kB) S H ta σ l) : Ev (K := K) (C := C) kB S H (tCB (rAll K) (tCons ta tNil)) σ (l.all id) :=
  ev_cb (eva_cons ha eva_nil) fun vs H1 _ rv Q q => by
    obtain ⟨v, r, rfl, ⟨a, us, rfl, _, h, p, _⟩, e⟩ := rv
    cases (show r = [] from e)
    rw [bls_paired p] at h
    exact ⟨a, l, rfl, .inl (.inl h), q _ H1 (Same.refl _) rfl⟩
theorem ev_any {l : List Bool} (ha : Ev (K := K) (C := C) (kL kB) S H ta σ l) : Ev (K := K) (C := C) kB S H (tCB (rAny K) (tCons ta tNil)) σ (l.any id) :=
  ev_cb (eva_cons ha eva_nil) fun vs H1 _ rv Q q => by
    obtain ⟨v, r, rfl, ⟨a, us, rfl, _, h, p, _⟩, e⟩ := rv
    cases (show r = [] from e)
    rw [bls_paired p] at h
    exact ⟨a, l, rfl, .inl (.inl h), q _ H1 (Same.refl _) rfl⟩
abbrev rMin2 : List V → Hp → VK → Prop := fun xs H Q => ∃ i j, xs = [.int i, .int j] ∧ Q (.int (if j < i then j else i)) H
abbrev rMax2 : List V → Hp → VK → Prop := fun xs H Q => ∃ i j, xs = [.int i, .int j] ∧ Q (.int (if j > i then j else i)) H
/-- min and max of two ints, as the rules have them -/
theorem ev_mm {f : Int → Int → Int} {i j : Int} (ha : Ev (K := K) (C := C) kI S H ta σ i) (hb : Ev (K := K) (C := C) kI S H tb σ j) : Ev (K := K) (C := C) kI S H (tCB (fun xs H Q => ∃ i j, xs = [.int i, .int j] ∧ Q (.int (f i j)) H) (tCons ta (tCons tb tNil))) σ (f i j) :=
  ev_cb (eva_cons ha (eva_cons hb eva_nil)) fun vs H1 _ rv Q q => by
    obtain ⟨v, r, rfl, h, v2, r2, e, h2, e2⟩ := rv
    cases (show v = .int i from h)
    cases (show r = v2 :: r2 from e)
    cases (show v2 = .int j from h2)
    cases (show r2 = [] from e2)
    exact ⟨i, j, rfl, q _ H1 (Same.refl _) rfl⟩
/-- rising -/
def insI (x : Int) : List Int → List Int
  | [] => [x]
  | y :: l => if x ≤ y then x :: y :: l else y :: insI x l
def srt : List Int → List Int
  | [] => []
  | x :: l => insI x (srt l)
theorem ins_perm (x : Int) : ∀ l, (insI x l).Perm (x :: l)
  | [] => List.Perm.refl _
  | y :: l => by
    unfold insI
    by_cases h : x ≤ y
    · rw [if_pos h]
    · rw [if_neg h]
      exact (List.Perm.cons y (ins_perm x l)).trans (List.Perm.swap _ _ _)
theorem srt_perm : ∀ l : List Int, (srt l).Perm l
  | [] => List.Perm.refl _
  | x :: l => (ins_perm x (srt l)).trans (List.Perm.cons x (srt_perm l))
theorem ins_up (x : Int) : ∀ {l : List Int}, l.Pairwise (· ≤ ·) → (insI x l).Pairwise (· ≤ ·)
  | [], _ => List.pairwise_singleton _ _
  | y :: l, h => by
    have h' := List.pairwise_cons.mp h
    unfold insI
    by_cases hx : x ≤ y
    · rw [if_pos hx]
      refine List.pairwise_cons.mpr ⟨fun z hz => ?_, h⟩
      rcases List.mem_cons.mp hz with rfl | hz
      · exact hx
      · have := h'.1 z hz
        omega
    · rw [if_neg hx]
      refine List.pairwise_cons.mpr ⟨fun z hz => ?_, ins_up x h'.2⟩
      rcases List.mem_cons.mp ((ins_perm x l).mem_iff.mp hz) with rfl | hz
      · omega
      · exact h'.1 z hz
theorem srt_up : ∀ l : List Int, (srt l).Pairwise (· ≤ ·)
  | [] => .nil
  | x :: l => ins_up x (srt_up l)
theorem srt_of {l ns : List Int} (p : ns.Perm l) (u : ns.Pairwise (· ≤ ·)) : ns = srt l :=
  (p.trans (srt_perm l).symm).eq_of_pairwise (fun a b _ _ h1 h2 => by omega) u (srt_up l)
theorem srt_len (l : List Int) : (srt l).length = l.length := (srt_perm l).length_eq
theorem evn_sortL {l : List Int} (ha : Ev (K := K) (C := C) (kL kI) S H ta σ l) (f : Fr C S H) (hc : l.length < 64) : EvN (K := K) (C := C) (kL kI) S H (tCB (rSorted K) (tCons ta tNil)) σ (srt l) :=
  evn_cb (eva_cons ha eva_nil) fun vs H1 s rv Q q => by
    obtain ⟨v, r, rfl, h, e⟩ := rv
    obtain ⟨a, rfl, _, h, _⟩ := kL_ints h
    cases (show r = [] from e)
    refine ⟨a, l, rfl, .inl (.inl h), hc, fun ns p hp hu hn => ?_⟩
    rw [srt_of hp hu]
    exact q p _ hn (sameU hn) ⟨p, _, rfl, (f.same s).out hn, upd_same, paired_ints _, by rw [srt_len]; omega⟩
theorem evn_sortT {l : List Int} (ha : Ev (K := K) (C := C) (kT kI) S H ta σ l) (f : Fr C S H) (hc : l.length < 64) : EvN (K := K) (C := C) (kL kI) S H (tCB (rSortedTu K) (tCons ta tNil)) σ (srt l) :=
  evn_cb (eva_cons ha eva_nil) fun vs H1 s rv Q q => by
    obtain ⟨v, r, rfl, h, e⟩ := rv
    obtain ⟨a, rfl, h, _⟩ := kT_ints h
    cases (show r = [] from e)
    refine ⟨a, l, rfl, h, hc, fun ns p hp hu hn => ?_⟩
    rw [srt_of hp hu]
    exact q p _ hn (sameU hn) ⟨p, _, rfl, (f.same s).out hn, upd_same, paired_ints _, by rw [srt_len]; omega⟩
abbrev rLOf (K : PySem.W.Frag) : List V → Hp → VK → Prop := fun xs H Q => ∃ p ys, xs = [.ref p] ∧ (SqL K H p ys ∨ SqT K H p ys) ∧ ∀ l, H l = none → Q (.ref l) (upd H l (.lst ys))
theorem evn_copyL {l : List α} (ha : Ev (kL k) S H ta σ l) (f : Fr C S H) : EvN (kL k) S H (tCB (rLOf K) (tCons ta tNil)) σ l :=
  evn_cb (eva_cons ha eva_nil) fun vs H1 s rv Q q => by
    obtain ⟨v, r, rfl, ⟨a, us, rfl, _, h, p, hl⟩, e⟩ := rv
    cases (show r = [] from e)
    exact ⟨a, us, rfl, .inl (.inl (.inl h)), fun c hn => q c _ hn (sameU hn) ⟨c, us, rfl, (f.same s).out hn, upd_same, L2.Paired.mapP p fun _ _ z => k.same (sameU hn) z, hl⟩⟩
theorem evn_copyT {l : List α} (ha : Ev (kT k) S H ta σ l) (f : Fr C S H) : EvN (kL k) S H (tCB (rLOf K) (tCons ta tNil)) σ l :=
  evn_cb (eva_cons ha eva_nil) fun vs H1 s rv Q q => by
    obtain ⟨v, r, rfl, ⟨a, us, rfl, h, p, hl⟩, e⟩ := rv
    cases (show r = [] from e)
    exact ⟨a, us, rfl, .inr h, fun c hn => q c _ hn (sameU hn) ⟨c, us, rfl, (f.same s).out hn, upd_same, L2.Paired.mapP p fun _ _ z => k.same (sameU hn) z, hl⟩⟩
abbrev rTOf (K : PySem.W.Frag) : List V → Hp → VK → Prop := fun xs H Q => ∃ p ys, xs = [.ref p] ∧ ((SqL K H p ys ∧ ∀ l, H l = none → Q (.ref l) (upd H l (.tup ys))) ∨ (SqT K H p ys ∧ Q (.ref p) H))
theorem ev_tupL {l : List α} (ha : Ev (kL k) S H ta σ l) : Ev (kT k) S H (tCB (rTOf K) (tCons ta tNil)) σ l :=
  ev_cb (eva_cons ha eva_nil) fun vs H1 s rv Q q => by
    obtain ⟨v, r, rfl, ⟨a, us, rfl, _, h, p, hl⟩, e⟩ := rv
    cases (show r = [] from e)
    exact ⟨a, us, rfl, .inl ⟨.inl (.inl h), fun c hn => q _ _ (sameU hn) ⟨c, us, rfl, .inl (.inl upd_same), L2.Paired.mapP p fun _ _ z => k.same (sameU hn) z, hl⟩⟩⟩
theorem ev_tupT {l : List α} (ha : Ev (kT k) S H ta σ l) : Ev (kT k) S H (tCB (rTOf K) (tCons ta tNil)) σ l :=
  ev_cb (eva_cons ha eva_nil) fun vs H1 s rv Q q => by
    obtain ⟨v, r, rfl, ⟨a, us, rfl, h, p, hl⟩, e⟩ := rv
    cases (show r = [] from e)
    exact ⟨a, us, rfl, .inr ⟨h, q _ _ (Same.refl _) ⟨a, us, rfl, h, p, hl⟩⟩⟩
theorem evn_catL {l m : List α} (ha : Ev (kL k) S H ta σ l) (hb : Ev (kL k) S H tb σ m) (f : Fr C S H) (hc : l.length + m.length ≤ 1000000) : EvN (kL k) S H (tOp rCat ta tb) σ (l ++ m) := fun H1 s Q q =>
  ha H1 s _ fun v H2 s2 rv => hb H2 (s.trans s2) _ fun w H3 s3 rw_ => by
    obtain ⟨a, us, rfl, _, h, p, _⟩ := (kL k).same s3 rv
    obtain ⟨b, ws, rfl, _, h', p', _⟩ := rw_
    have sz : us.length + ws.length ≤ sizeLine := by
      rw [pLen p, pLen p']
      exact Nat.le_trans hc (Nat.le_of_lt big_line)
    exact ⟨a, b, us, ws, rfl, rfl, h, h', sz, fun c hn => q c _ (s2.free (s3.free hn)) (s2.trans (s3.trans (sameU hn)))
      ⟨c, _, rfl, (f.same (s.trans (s2.trans s3))).out hn, upd_same, Paired.app (L2.Paired.mapP p fun _ _ z => k.same (sameU hn) z) (L2.Paired.mapP p' fun _ _ z => k.same (sameU hn) z), by rw [List.length_append]; exact hc⟩⟩
theorem ev_catT {l m : List α} (ha : Ev (kT k) S H ta σ l) (hb : Ev (kT k) S H tb σ m) (hc : l.length + m.length ≤ 1000000) : Ev (kT k) S H (tOp (rCat1 K) ta tb) σ (l ++ m) :=
  ev_op2 ha hb fun v w H1 _ e1 e2 Q q => by
    obtain ⟨a, us, rfl, h, p, _⟩ := e1
    obtain ⟨b, ws, rfl, h', p', _⟩ := e2
    have sz : us.length + ws.length ≤ sizeLine := by
      rw [pLen p, pLen p']
      exact Nat.le_trans hc (Nat.le_of_lt big_line)
    exact ⟨a, b, us, ws, rfl, rfl, h, h', sz, fun c H2 s hh => q _ _ s ⟨c, _, rfl, hh, Paired.app (L2.Paired.mapP p fun _ _ z => k.same s z) (L2.Paired.mapP p' fun _ _ z => k.same s z), by rw [List.length_append]; exact hc⟩⟩
/-- a list or a tuple -/
inductive IsSq (k : Kd K C α) : Kd K C (List α) → Prop
  | l : IsSq k (kL k)
  | t : IsSq k (kT k)
theorem ev_len {kk : Kd K C (List α)} {l : List α} (ha : Ev kk S H ta σ l) (is : IsSq k kk) : Ev (K := K) (C := C) kI S H (tCB (rLen K) (tCons ta tNil)) σ (l.length : Nat) := by
  cases is with
  | l => exact ev_lenL ha
  | t => exact ev_lenT ha
theorem ev_in {kk : Kd K C (List Int)} {i : Int} {l : List Int} (ha : Ev (K := K) (C := C) kI S H ta σ i) (hb : Ev kk S H tb σ l) (is : IsSq kI kk) : Ev (K := K) (C := C) kB S H (tOp (rIn K false) ta tb) σ (decide (i ∈ l)) := by
  cases is with
  | l => exact ev_inL ha hb
  | t => exact ev_inT ha hb
theorem ev_nin {kk : Kd K C (List Int)} {i : Int} {l : List Int} (ha : Ev (K := K) (C := C) kI S H ta σ i) (hb : Ev kk S H tb σ l) (is : IsSq kI kk) : Ev (K := K) (C := C) kB S H (tOp (rIn K true) ta tb) σ (!decide (i ∈ l)) := by
  cases is with
  | l => exact ev_ninL ha hb
  | t => exact ev_ninT ha hb
theorem evn_copy {kk : Kd K C (List α)} {l : List α} (ha : Ev kk S H ta σ l) (is : IsSq k kk) (f : Fr C S H) : EvN (kL k) S H (tCB (rLOf K) (tCons ta tNil)) σ l := by
  cases is with
  | l => exact evn_copyL ha f
  | t => exact evn_copyT ha f
theorem ev_tup {kk : Kd K C (List α)} {l : List α} (ha : Ev kk S H ta σ l) (is : IsSq k kk) : Ev (kT k) S H (tCB (rTOf K) (tCons ta tNil)) σ l := by
  cases is with
  | l => exact ev_tupL ha
  | t => exact ev_tupT ha
/-! displays -/
theorem ev_t0 : Ev (kT k) S H (tTup tNil) σ [] := fun H1 s Q q => ⟨Nat.zero_le _, fun p hn => q _ _ (sameU hn) ⟨p, [], rfl, .inl (.inl upd_same), .nil, Nat.zero_le _⟩⟩
theorem ev_t1 (ha : Ev k S H ta σ x) : Ev (kT k) S H (tTup (tCons ta tNil)) σ [x] := fun H1 s Q q =>
  ha H1 s _ fun v H2 s2 r => ⟨szL (by simp), fun p hn => q _ _ (s2.trans (sameU hn)) ⟨p, [v], rfl, .inl (.inl upd_same), .cons (k.same (sameU hn) r) .nil, by simp⟩⟩
theorem ev_t2 {y : β} (ha : Ev k S H ta σ x) (hb : Ev k1 S H tb σ y) : Ev (kP k k1) S H (tTup (tCons ta (tCons tb tNil))) σ (x, y) := fun H1 s Q q =>
  ha H1 s _ fun v H2 s2 r => hb H2 (s.trans s2) _ fun w H3 s3 r3 => ⟨szL (by simp), fun p hn => q _ _ (s2.trans (s3.trans (sameU hn))) ⟨p, v, w, rfl, .inl (.inl upd_same), k.same (s3.trans (sameU hn)) r, k1.same (sameU hn) r3⟩⟩
theorem ev_t3 {y : β} {z : γ} (ha : Ev k S H ta σ x) (hb : Ev k1 S H tb σ y) (hc : Ev k2 S H tc σ z) : Ev (k3 k k1 k2) S H (tTup (tCons ta (tCons tb (tCons tc tNil)))) σ (x, y, z) := fun H1 s Q q =>
  ha H1 s _ fun v H2 s2 r => hb H2 (s.trans s2) _ fun w H3 s3 r3 => hc H3 (s.trans (s2.trans s3)) _ fun u H4 s4 r4 => ⟨szL (by simp), fun p hn => q _ _ (s2.trans (s3.trans (s4.trans (sameU hn))))
    ⟨p, v, w, u, rfl, .inl (.inl upd_same), k.same (s3.trans (s4.trans (sameU hn))) r, k1.same (s4.trans (sameU hn)) r3, k2.same (sameU hn) r4⟩⟩
theorem evn_l0 (f : Fr C S H) : EvN (kL k) S H (tLst tNil) σ [] := fun H1 s Q q => ⟨Nat.zero_le _, fun p hn => q _ _ hn (sameU hn) ⟨p, [], rfl, (f.same s).out hn, upd_same, .nil, Nat.zero_le _⟩⟩
theorem evn_l1 (ha : Ev k S H ta σ x) (f : Fr C S H) : EvN (kL k) S H (tLst (tCons ta tNil)) σ [x] := fun H1 s Q q =>
  ha H1 s _ fun v H2 s2 r => ⟨szL (by simp), fun p hn => q _ _ (s2.free hn) (s2.trans (sameU hn)) ⟨p, [v], rfl, (f.same (s.trans s2)).out hn, upd_same, .cons (k.same (sameU hn) r) .nil, by simp⟩⟩
/-! tests -/
theorem evt_test {b : Bool} (h : Ev (K := K) (C := C) kB S H t σ b) : EvT H (tTest t) σ b := fun H1 s Q q => h H1 s _ fun v H2 s2 r => ⟨b, r, q H2 s2⟩
theorem evt_b {b : Bool} (h : Ev (K := K) (C := C) kB S H t σ b) : EvT H (tB t) σ b := fun H1 s Q q => h H1 s _ fun v H2 s2 r => ⟨b, r, q H2 s2⟩
theorem evt_yes : EvT H tYes σ true := fun H1 _ Q q => q H1 (Same.refl _)
theorem evt_not {b : Bool} (h : EvT H tt σ b) : EvT H (tNot tt) σ (!b) := fun H1 s Q q => h H1 s _ fun H2 s2 => q H2 s2
theorem evt_and {b c : Bool} (h : EvT H tt σ b) (g : b = true → EvT H tu σ c) : EvT H (tAnd tt tu) σ (b && c) := fun H1 s Q q => h H1 s _ fun H2 s2 => by
  cases b with
  | true => exact iteT (g rfl H2 (s.trans s2) Q fun H3 s3 => q H3 (s2.trans s3))
  | false => exact iteF (q H2 s2)
theorem evt_or {b c : Bool} (h : EvT H tt σ b) (g : b = false → EvT H tu σ c) : EvT H (tOr tt tu) σ (b || c) := fun H1 s Q q => h H1 s _ fun H2 s2 => by
  cases b with
  | false => exact iteF (g rfl H2 (s.trans s2) Q fun H3 s3 => q H3 (s2.trans s3))
  | true => exact iteT (q H2 s2)
theorem ev_if {b : Bool} {y : α} (h : EvT H tt σ b) (ha : b = true → Ev k S H ta σ x) (hb : b = false → Ev k S H tb σ y) : Ev k S H (tIf tt ta tb) σ (if b = true then x else y) := fun H1 s Q q => h H1 s _ fun H2 s2 => by
  cases b with
  | true => exact iteT (ha rfl H2 (s.trans s2) Q fun v H3 s3 r => q v H3 (s2.trans s3) r)
  | false => exact iteF (hb rfl H2 (s.trans s2) Q fun v H3 s3 r => q v H3 (s2.trans s3) r)
theorem ev_andV {b c : Bool} (h : Ev (K := K) (C := C) kB S H ta σ b) (g : b = true → Ev (K := K) (C := C) kB S H tb σ c) : Ev (K := K) (C := C) kB S H (tAndV ta tb) σ (b && c) := fun H1 s Q q => h H1 s _ fun v H2 s2 r => by
  refine ⟨b, r, ?_⟩
  cases b with
  | true => exact iteT (g rfl H2 (s.trans s2) Q fun v H3 s3 r => q v H3 (s2.trans s3) r)
  | false => exact iteF (q _ H2 s2 rfl)
theorem ev_orV {b c : Bool} (h : Ev (K := K) (C := C) kB S H ta σ b) (g : b = false → Ev (K := K) (C := C) kB S H tb σ c) : Ev (K := K) (C := C) kB S H (tOrV ta tb) σ (b || c) := fun H1 s Q q => h H1 s _ fun v H2 s2 r => by
  refine ⟨b, r, ?_⟩
  cases b with
  | false => exact iteF (g rfl H2 (s.trans s2) Q fun v H3 s3 r => q v H3 (s2.trans s3) r)
  | true => exact iteT (q _ H2 s2 rfl)
theorem ev_notV {b : Bool} (h : Ev (K := K) (C := C) kB S H ta σ b) : Ev (K := K) (C := C) kB S H (tNotV ta) σ (!b) := fun H1 s Q q => h H1 s _ fun v H2 s2 r => ⟨b, r, q _ H2 s2 rfl⟩
/-! what is walked -/
theorem evi_list {l : List α} (h : Ev (kL k) S H t σ l) : EvI k S H (iList K t) σ l := fun H1 s R r => h H1 s _ fun v H2 s2 rv => by
  obtain ⟨a, vs, e, _, h1, p, _⟩ := id rv
  refine ⟨a, e, ⟨vs, .inl (.inl h1)⟩, r _ H2 s2 ⟨fun i S' H' lf hi => ?_, fun i S' H' v' H'' x lf hx y => ?_, fun i S' H' lf hi => ?_⟩⟩
  · obtain ⟨a', vs', e', _, h1', p', _⟩ := lf.go _ _ _ rv
    cases e.symm.trans e'
    have hi' : i < vs'.length := by rw [pLen p']; exact hi
    exact ⟨vs', vs'[i], .inl (.inl h1'), by simp [hi']⟩
  · obtain ⟨a', vs', e', _, h1', p', _⟩ := lf.go _ _ _ rv
    cases e.symm.trans e'
    obtain ⟨rfl, y⟩ := y
    obtain ⟨u, hu, r⟩ := Paired.at2 p' hx
    have := y vs' (.inl (.inl h1'))
    rw [hu] at this
    cases this
    exact ⟨Same.refl _, r⟩
  · obtain ⟨a', vs', e', _, h1', p', _⟩ := lf.go _ _ _ rv
    cases e.symm.trans e'
    exact ⟨vs', .inl (.inl h1'), by rw [pLen p']; exact hi⟩
theorem evi_tup {l : List α} (h : Ev (kT k) S H t σ l) : EvI k S H (iTup K t) σ l := fun H1 s R r => h H1 s _ fun v H2 s2 rv => by
  obtain ⟨a, vs, e, h1, p, _⟩ := id rv
  refine ⟨a, e, ⟨vs, h1⟩, r _ H2 s2 ⟨fun i S' H' lf hi => ?_, fun i S' H' v' H'' x lf hx y => ?_, fun i S' H' lf hi => ?_⟩⟩
  · obtain ⟨a', vs', e', h1', p', _⟩ := lf.go _ _ _ rv
    cases e.symm.trans e'
    have hi' : i < vs'.length := by rw [pLen p']; exact hi
    exact ⟨vs', vs'[i], h1', by simp [hi']⟩
  · obtain ⟨a', vs', e', h1', p', _⟩ := lf.go _ _ _ rv
    cases e.symm.trans e'
    obtain ⟨rfl, y⟩ := y
    obtain ⟨u, hu, r⟩ := Paired.at2 p' hx
    have := y vs' h1'
    rw [hu] at this
    cases this
    exact ⟨Same.refl _, r⟩
  · obtain ⟨a', vs', e', h1', p', _⟩ := lf.go _ _ _ rv
    cases e.symm.trans e'
    exact ⟨vs', h1', by rw [pLen p']; exact hi⟩
def iota (n : Int) : List Int := (List.range n.toNat).map fun i => ((i : Nat) : Int)
theorem iota_len (n : Int) : (iota n).length = n.toNat := by
  unfold iota
  rw [List.length_map, List.length_range]
theorem iota_at {n : Int} {i : Nat} {x : Int} (h : (iota n)[i]? = some x) : x = (i : Int) ∧ i < n.toNat := by
  unfold iota at h
  rw [List.getElem?_map] at h
  by_cases hi : i < n.toNat
  · rw [List.getElem?_range hi] at h
    cases h
    exact ⟨rfl, hi⟩
  · rw [List.getElem?_eq_none (by rw [List.length_range]; omega)] at h
    cases h
theorem iota_mem {n x : Int} : x ∈ iota n ↔ 0 ≤ x ∧ x < n := by
  unfold iota
  simp only [List.mem_map, List.mem_range]
  constructor
  · rintro ⟨a, h, rfl⟩
    omega
  · rintro ⟨h1, h2⟩
    exact ⟨x.toNat, by omega, by omega⟩
theorem evi_rng {n : Int} (h : Ev (K := K) (C := C) kI S H t σ n) (hn : n ≤ 1000000) (hm : -1000000 ≤ n) : EvI (K := K) (C := C) kI S H (iRng1 (tCons t tNil)) σ (iota n) := fun H1 s R r => (eva_cons h eva_nil) H1 s _ fun vs H2 s2 rv => by
  obtain ⟨v, rr, rfl, hv, e⟩ := rv
  cases (show v = .int n from hv)
  cases (show rr = [] from e)
  refine ⟨n, rfl, by omega, by omega, r _ H2 s2 ⟨fun i S' H' lf hi => ?_, fun i S' H' v H'' x lf hx y => ?_, fun i S' H' lf hi => ?_⟩⟩
  · rw [iota_len] at hi
    exact hi
  · obtain ⟨rfl, rfl⟩ := y
    obtain ⟨rfl, _⟩ := iota_at hx
    exact ⟨Same.refl _, by show V.int _ = V.int _; rw [Int.zero_add]⟩
  · rw [iota_len] at hi
    exact hi
/-- each with its place -/
def enum {α : Type} (l : List α) : List (Int × α) := l.zipIdx.map fun p => ((p.2 : Nat), p.1)
theorem enum_len {α : Type} (l : List α) : (enum l).length = l.length := by
  unfold enum
  rw [List.length_map, List.length_zipIdx]
theorem enum_at {α : Type} {l : List α} {i : Nat} {x : Int × α} (h : (enum l)[i]? = some x) : x.1 = (i : Int) ∧ l[i]? = some x.2 := by
  unfold enum at h
  rw [List.getElem?_map, List.getElem?_zipIdx] at h
  cases e : l[i]? with
  | none => rw [e] at h; cases h
  | some y =>
    rw [e] at h
    cases h
    exact ⟨by show ((0 + i : Nat) : Int) = _; rw [Nat.zero_add], rfl⟩
theorem evi_enum {l : List α} (h : Ev (kL k) S H t σ l) : EvI (kP kI k) S H (iEnum K (tCons t tNil)) σ (enum l) := fun H1 s R r => (eva_cons h eva_nil) H1 s _ fun vs0 H2 s2 rv => by
  obtain ⟨v, rr, rfl, rv, e⟩ := rv
  cases (show rr = [] from e)
  obtain ⟨a, vs, rfl, _, h1, p, _⟩ := id rv
  refine ⟨a, vs, rfl, .inl (.inl h1), r _ H2 s2 ⟨fun i S' H' lf hi => ?_, fun i S' H' v H'' x lf hx y => ?_, fun i S' H' lf hi => ?_⟩⟩
  · obtain ⟨a', vs', e', _, h1', p', _⟩ := lf.go _ _ _ rv
    cases e'
    have hi' : i < vs'.length := by rw [pLen p', ← enum_len l]; exact hi
    exact ⟨vs', vs'[i], .inl (.inl h1'), by simp [hi']⟩
  · obtain ⟨a', vs', e', _, h1', p', _⟩ := lf.go _ _ _ rv
    cases e'
    obtain ⟨T, z, rfl, nT, rfl, y⟩ := y
    obtain ⟨e1, e2⟩ := enum_at hx
    obtain ⟨u, hu, r⟩ := Paired.at2 p' e2
    have := y vs' (.inl (.inl h1'))
    rw [hu] at this
    cases this
    exact ⟨sameU nT, T, _, _, rfl, .inl (.inl upd_same), by rw [e1]; rfl, k.same (sameU nT) r⟩
  · obtain ⟨a', vs', e', _, h1', p', _⟩ := lf.go _ _ _ rv
    cases e'
    exact ⟨vs', .inl (.inl h1'), by rw [pLen p', ← enum_len l]; exact hi⟩
theorem evi_zip {l : List α} {m : List β} (h : Ev (kL k) S H ta σ l) (g : Ev (kL k1) S H tb σ m) : EvI (kP k k1) S H (iZip K (tCons ta (tCons tb tNil))) σ (l.zip m) := fun H1 s R r => (eva_cons h (eva_cons g eva_nil)) H1 s _ fun vs0 H2 s2 rv => by
  obtain ⟨v, rr, rfl, rv, v2, r2, e, rv2, e2⟩ := rv
  cases (show rr = _ from e)
  cases (show r2 = [] from e2)
  obtain ⟨a, vs, rfl, _, h1, p, _⟩ := id rv
  obtain ⟨b, ws, rfl, _, h2, p2, _⟩ := id rv2
  refine ⟨a, b, vs, ws, rfl, .inl (.inl h1), .inl (.inl h2), r _ H2 s2 ⟨fun i S' H' lf hi => ?_, fun i S' H' v H'' x lf hx y => ?_, fun i S' H' lf hi => ?_⟩⟩
  · obtain ⟨a', vs', e', _, h1', p', _⟩ := lf.go _ _ _ rv
    cases e'
    obtain ⟨b', ws', e', _, h2', p2', _⟩ := lf.go _ _ _ rv2
    cases e'
    rw [List.length_zip] at hi
    have l1 : vs'.length = l.length := pLen p'
    have l2 : ws'.length = m.length := pLen p2'
    have i1 : i < vs'.length := by omega
    have i2 : i < ws'.length := by omega
    exact ⟨vs', ws', vs'[i], ws'[i], .inl (.inl h1'), .inl (.inl h2'), by simp [i1], by simp [i2]⟩
  · obtain ⟨a', vs', e', _, h1', p', _⟩ := lf.go _ _ _ rv
    cases e'
    obtain ⟨b', ws', e', _, h2', p2', _⟩ := lf.go _ _ _ rv2
    cases e'
    obtain ⟨T, y1, y2, rfl, nT, rfl, f1, f2⟩ := y
    obtain ⟨x1, x2⟩ := x
    obtain ⟨g1, g2⟩ := List.getElem?_zip_eq_some.mp hx
    obtain ⟨u, hu, r⟩ := Paired.at2 p' g1
    obtain ⟨u2, hu2, r2⟩ := Paired.at2 p2' g2
    have e1 := f1 vs' (.inl (.inl h1'))
    have e2 := f2 ws' (.inl (.inl h2'))
    rw [hu] at e1
    rw [hu2] at e2
    cases e1
    cases e2
    exact ⟨sameU nT, T, _, _, rfl, .inl (.inl upd_same), k.same (sameU nT) r, k1.same (sameU nT) r2⟩
  · obtain ⟨a', vs', e', _, h1', p', _⟩ := lf.go _ _ _ rv
    cases e'
    obtain ⟨b', ws', e', _, h2', p2', _⟩ := lf.go _ _ _ rv2
    cases e'
    rw [List.length_zip] at hi
    have l1 : vs'.length = l.length := pLen p'
    have l2 : ws'.length = m.length := pLen p2'
    exact ⟨vs', ws', .inl (.inl h1'), .inl (.inl h2'), by omega⟩
/-! comprehensions -/
/-- one turn -/
def Lcb (ke : Kd K C β) (S : List Addr) (H : Hp) (g : TG) (tt : TT) (te : TE) (vs : List Nat) (σ : L2.St) (v : V) (b : Bool) (y : β) : Prop :=
  ∀ Q : L2.St → Hp → Prop, (∀ σ2, wipe σ2 vs = wipe σ vs → EvT H tt σ2 b → (b = true → Ev ke S H te σ2 y) → Q σ2 H) → g v (wipe σ vs) H Q
theorem lcb_name {ke : Kd K C β} {te : TE} {vs : List Nat} {v : V} {b : Bool} {y : β} {i : Nat} (hw : wipe ((wipe σ vs).set i (some v)) vs = wipe σ vs) (h1 : EvT H tt ((wipe σ vs).set i (some v)) b) (h2 : b = true → Ev ke S H te ((wipe σ vs).set i (some v)) y) :
    Lcb ke S H (gName i) tt te vs σ v b y := fun Q q => q _ hw h1 h2
theorem lcb_pair {ke : Kd K C δ} {te : TE} {vs : List Nat} {v : V} {b : Bool} {y : δ} {z : α × β} {i j : Nat} (hv : (kP k k1).rp S H v z)
    (h : ∀ v1 v2, k.rp S H v1 z.1 → k1.rp S H v2 z.2 → wipe (((wipe σ vs).set i (some v1)).set j (some v2)) vs = wipe σ vs ∧ EvT H tt (((wipe σ vs).set i (some v1)).set j (some v2)) b ∧ (b = true → Ev ke S H te (((wipe σ vs).set i (some v1)).set j (some v2)) y)) :
    Lcb ke S H (gTup K 2 (gCons (gName i) (gCons (gName j) gNil))) tt te vs σ v b y := fun Q q => by
  obtain ⟨t, v1, v2, rfl, hT, r1, r2⟩ := hv
  obtain ⟨e1, e2, e3⟩ := h v1 v2 r1 r2
  exact ⟨t, _, rfl, hT, rfl, v1, _, rfl, v2, _, rfl, rfl, q _ e1 e2 e3⟩
theorem lcb_pair2 {ke : Kd K C δ} {te : TE} {vs : List Nat} {v : V} {b : Bool} {y : δ} {z : α × β × γ} {i j m : Nat} (hv : (kP k (kP k1 k2)).rp S H v z)
    (h : ∀ v1 v2 v3, k.rp S H v1 z.1 → k1.rp S H v2 z.2.1 → k2.rp S H v3 z.2.2 → wipe ((((wipe σ vs).set i (some v1)).set j (some v2)).set m (some v3)) vs = wipe σ vs ∧ EvT H tt ((((wipe σ vs).set i (some v1)).set j (some v2)).set m (some v3)) b ∧ (b = true → Ev ke S H te ((((wipe σ vs).set i (some v1)).set j (some v2)).set m (some v3)) y)) :
    Lcb ke S H (gTup K 2 (gCons (gName i) (gCons (gTup K 2 (gCons (gName j) (gCons (gName m) gNil))) gNil))) tt te vs σ v b y := fun Q q => by
  obtain ⟨t, v1, v2, rfl, hT, r1, t2, w1, w2, rfl, hT2, r2, r3⟩ := hv
  obtain ⟨e1, e2, e3⟩ := h v1 w1 w2 r1 r2 r3
  exact ⟨t, _, rfl, hT, rfl, v1, _, rfl, .ref t2, _, rfl, t2, _, rfl, hT2, rfl, w1, _, rfl, w2, _, rfl, rfl, rfl, q _ e1 e2 e3⟩
theorem evn_lc {wi : TI} {g : TG} {te : TE} {vs : List Nat} {kx : Kd K C α} {ke : Kd K C β} {l : List α} {p : α → Bool} {f : α → β} (fr : Fr C S H) (hi : EvI kx S H wi σ l) (hl : l.length ≤ 1000000)
    (hb : ∀ y ∈ l, ∀ D v H', Lf K C S H (D :: S) H' → Fr C (D :: S) H' → kx.rp (D :: S) H' v y → Lcb ke (D :: S) H' g tt te vs σ v (p y) (f y)) : EvN (kL ke) S H (tLc wi g tt te vs) σ ((l.filter p).map f) := fun H1 s1 Q q => by
  refine hi H1 s1 _ fun J H2 s2 W D nD => ?_
  have f2 := fr.same (s1.trans s2)
  have s02 : Same H H2 := s1.trans s2
  have stepf : ∀ {i : Nat} {y : α}, l[i]? = some y → (l.take (i + 1)).filter p = (l.take i).filter p ++ (if p y = true then [y] else []) := fun {i y} h => by
    rw [take_more h, List.filter_append]
    congr 1
    cases e : p y <;> simp [e]
  refine ⟨fun i m Hx => m = l.length - i ∧ i ≤ l.length ∧ Same H2 Hx ∧ Fr C (D :: S) Hx ∧ ∃ us, Hx D = some (.lst us) ∧ Paired (ke.rp (D :: S) Hx) us (((l.take i).filter p).map f), ⟨l.length, by simp, Nat.zero_le _, sameU nD, f2.cons nD trivial, [], upd_same, .nil⟩, ?_⟩
  rintro i m Hx ⟨rfl, hi, sx, fx, us, hD, hP⟩
  have sD : Lf K C S H2 (D :: S) Hx := ⟨fun k v x h => k.same sx (k.new nD h), sx.tab⟩
  by_cases hlt : i < l.length
  · refine .inr ⟨W.go i _ Hx sD hlt, fun H' => i + 1 ≤ l.length ∧ Same H2 H' ∧ Fr C (D :: S) H' ∧ ∃ us, H' D = some (.lst us) ∧ Paired (ke.rp (D :: S) H') us (((l.take (i + 1)).filter p).map f), fun H' h => ⟨l.length - (i + 1), by omega, rfl, h⟩, fun v H' hy => ?_⟩
    have hx : l[i]? = some l[i] := by simp [hlt]
    obtain ⟨s3, rv⟩ := W.yld i (D :: S) Hx v H' l[i] sD hx hy
    have l3 : Lf K C S H (D :: S) H' := (Lf.same s02).trans (sD.trans (Lf.same s3))
    refine hb l[i] (List.getElem_mem _) D v H' l3 (fx.same s3) rv _ fun σ2 e1 e2 e3 => ⟨e1, e2 H' (Same.refl _) _ fun H4 s4 => ?_⟩
    have s34 := s3.trans s4
    cases hb : p l[i] with
    | true =>
      refine iteT (e3 hb H4 s4 _ fun w H5 s5 rw_ => ?_)
      have s35 := s34.trans s5
      have hD5 := s35 _ _ hD
      have hl2 : us.length < sizeLine := by
        rw [pLen hP, List.length_map]
        have h1 := List.length_filter_le p (l.take i)
        rw [List.length_take] at h1
        exact szl (by omega)
      have f5 := fx.same s35
      have su : Sx C (D :: S) H5 (upd H5 D (.lst (us ++ [w]))) := sx_upd f5 (by simp) trivial
      refine ⟨us, hD5, hl2, hlt, sameOwn (sx.trans s35) nD, su.fr, us ++ [w], upd_same, ?_⟩
      rw [stepf hx, hb, if_pos rfl, List.map_append]
      exact Paired.app (L2.Paired.mapP hP fun _ _ z => ke.sx f5 su (ke.same s35 z)) (.cons (ke.sx f5 su rw_) .nil)
    | false =>
      refine iteF ⟨hlt, sx.trans s34, fx.same s34, us, s34 _ _ hD, ?_⟩
      rw [stepf hx, hb, if_neg Bool.false_ne_true, List.append_nil]
      exact L2.Paired.mapP hP fun _ _ z => ke.same s34 z
  · have e : i = l.length := by omega
    subst e
    rw [List.take_length] at hP
    refine .inl ⟨W.stop _ _ Hx sD (Nat.le_refl _), q D Hx (s2.free nD) (s2.trans sx) ⟨D, us, rfl, f2.out nD, hD, L2.Paired.mapP hP fun _ _ z => ke.less (fun _ m => List.mem_cons_of_mem _ m) z, ?_⟩⟩
    rw [List.length_map]
    exact Nat.le_trans (List.length_filter_le _ _) hl
end
section
variable {K : PySem.W.Frag} {C : Addr} {α : Type} {kx : Kd K C α} {S : List Addr} {H : Hp} {σ : L2.St} {wi : TI} {g : TG} {tb : TS} {l : List α} {D : Ends}
/-- for .. : by an invariant that carries the facts -/
theorem s_for (hi : EvI kx S H wi σ l) (q : ∀ H2, Same H H2 → ∃ Iv : Nat → L2.St → Hp → Prop, Iv 0 σ H2 ∧ (∀ i σ' H', Iv i σ' H' → Lf K C S H2 S H') ∧
    (∀ i x σ' H' v H'', l[i]? = some x → Iv i σ' H' → Same H' H'' → kx.rp S H'' v x → g v σ' H'' fun σ2 H3 => tb { D with nx := Iv (i + 1), ct := Iv (i + 1), bk := D.nx } σ2 H3) ∧
    (∀ σ' H', Iv l.length σ' H' → D.nx σ' H')) : tFor wi g tb D σ H := by
  refine hi H (Same.refl _) _ fun J H2 s2 W => ?_
  obtain ⟨Iv, h0, lf, hs, hd⟩ := q H2 s2
  refine ⟨fun i m σ' H' => m = l.length - i ∧ i ≤ l.length ∧ Iv i σ' H', ⟨l.length, by simp, Nat.zero_le _, h0⟩, ?_⟩
  rintro i m σ' H' ⟨rfl, hl, iv⟩
  have f := lf _ _ _ iv
  by_cases hlt : i < l.length
  · refine .inr ⟨W.go i S H' f hlt, Iv (i + 1), fun σ2 H3 h => ⟨l.length - (i + 1), by omega, rfl, hlt, h⟩, fun v H3 hy => ?_⟩
    have hx : l[i]? = some l[i] := by simp [hlt]
    obtain ⟨s3, rv⟩ := W.yld i S H' v H3 _ f hx hy
    exact hs i _ σ' H' v H3 hx iv s3 rv
  · have e : i = l.length := by omega
    subst e
    exact .inl ⟨W.stop _ S H' f (Nat.le_refl _), hd _ _ iv⟩
end
/-! ### defs on data -/
section
variable {K : PySem.W.Frag} {C : Addr} {α β γ δ τ : Type}
/-- from such arguments that, the heap only grows -/
def spD (ks : Ka K C τ) (kr : Kd K C β) (pre : τ → Prop) (g : τ → β) : Sp := fun vs H Q _ => ∃ S a, Fr C S H ∧ ks.rps S H vs a ∧ pre a ∧ ∀ v H', Same H H' → kr.rp S H' v (g a) → Q v H'
/-- .. a new object -/
def spN (ks : Ka K C τ) (kr : Kd K C β) (pre : τ → Prop) (g : τ → β) : Sp := fun vs H Q _ => ∃ S a, Fr C S H ∧ ks.rps S H vs a ∧ pre a ∧ ∀ p H', H p = none → Same H H' → kr.rp S H' (.ref p) (g a) → Q (.ref p) H'
variable {ks : Ka K C τ} {kr : Kd K C β} {pre : τ → Prop} {g : τ → β} {S : List Addr} {H : Hp} {σ : L2.St} {ta : TA} {E : V → XK} {a : τ}
theorem ev_call {E} (ha : EvA ks S H ta σ a) (fr : Fr C S H) (hp : pre a) : Ev kr S H (tCall (spD ks kr pre g) [] E ta) σ (g a) := fun H1 s Q q => ha H1 s _ fun vs H2 s2 rv => by
  show spD ks kr pre g (vs ++ []) H2 Q _
  rw [List.append_nil]
  exact ⟨S, a, fr.same (s.trans s2), rv, hp, fun v H3 s3 r => q v H3 (s2.trans s3) r⟩
theorem evn_call {E} (ha : EvA ks S H ta σ a) (fr : Fr C S H) (hp : pre a) : EvN kr S H (tCall (spN ks kr pre g) [] E ta) σ (g a) := fun H1 s Q q => ha H1 s _ fun vs H2 s2 rv => by
  show spN ks kr pre g (vs ++ []) H2 Q _
  rw [List.append_nil]
  exact ⟨S, a, fr.same (s.trans s2), rv, hp, fun v H3 n s3 r => q v H3 (s2.free n) (s2.trans s3) r⟩
end
end Ew
namespace Ew
open PySem PySem.Spec PyProof.Rows L2
theorem iteTd {c : Bool} {A B : Prop} (h : c = true) (a : A) : if c = true then A else B := by rw [if_pos h]; exact a
theorem iteFd {c : Bool} {A B : Prop} (h : c = false) (a : B) : if c = true then A else B := by rw [h]; exact iteF a
/-! ### statements -/
section
variable {K : PySem.W.Frag} {C : Addr} {α β γ : Type} {k : Kd K C α} {k1 : Kd K C β} {k2 : Kd K C γ} {S : List Addr} {H : Hp} {σ : L2.St} {te ta tb : TE} {x : α} {y : β} {D : Ends} {u : TS} {i j m : Nat} {tt : TT} {b : Bool} {t1 t2 : TS}
theorem s_ret (h : Ev k S H te σ x) (q : ∀ v H2, Same H H2 → k.rp S H2 v x → D.rt v H2) : tRet te D σ H := h.use q
theorem s_retN (h : EvN k S H te σ x) (q : ∀ p H2, H p = none → Same H H2 → k.rp S H2 (.ref p) x → D.rt (.ref p) H2) : tRet te D σ H := h.use q
theorem s_set (h : Ev k S H te σ x) (q : ∀ v H2, Same H H2 → k.rp S H2 v x → D.nx (σ.set i (some v)) H2) : tAsg te (gName i) D σ H := h.use q
theorem s_setN (h : EvN k S H te σ x) (q : ∀ p H2, H p = none → Same H H2 → k.rp S H2 (.ref p) x → D.nx (σ.set i (some (.ref p))) H2) : tAsg te (gName i) D σ H := h.use q
theorem q_set (h : Ev k S H te σ x) (q : ∀ v H2, Same H H2 → k.rp S H2 v x → u D (σ.set i (some v)) H2) : tSeq (tAsg te (gName i)) u D σ H := h.use q
theorem q_setN (h : EvN k S H te σ x) (q : ∀ p H2, H p = none → Same H H2 → k.rp S H2 (.ref p) x → u D (σ.set i (some (.ref p))) H2) : tSeq (tAsg te (gName i)) u D σ H := h.use q
theorem q_set2 {z : α × β} (h : Ev (kP k k1) S H te σ z) (q : ∀ v1 v2 H2, Same H H2 → k.rp S H2 v1 z.1 → k1.rp S H2 v2 z.2 → u D ((σ.set i (some v1)).set j (some v2)) H2) : tSeq (tAsg te (gTup K 2 (gCons (gName i) (gCons (gName j) gNil)))) u D σ H :=
  h.use fun v H2 s ⟨t, v1, v2, e, hT, r1, r2⟩ => ⟨t, _, e, hT, rfl, v1, _, rfl, v2, _, rfl, rfl, q v1 v2 H2 s r1 r2⟩
theorem q_par (h : Ev k S H ta σ x) (g : Ev k1 S H tb σ y) (q : ∀ v1 v2 H2, Same H H2 → k.rp S H2 v1 x → k1.rp S H2 v2 y → u D ((σ.set i (some v1)).set j (some v2)) H2) : tSeq (tPar i j (tCons ta (tCons tb tNil))) u D σ H :=
  h.use fun v1 H2 s r1 => g H2 s _ fun v2 H3 s3 r2 => ⟨v1, v2, rfl, q v1 v2 H3 (s.trans s3) (k.same s3 r1) r2⟩
theorem q_parNN (h : EvN k S H ta σ x) (g : ∀ H1, Same H H1 → EvN k1 S H1 tb σ y) (q : ∀ p1 p2 H1 H2, H p1 = none → Same H H1 → k.rp S H1 (.ref p1) x → H1 p2 = none → Same H1 H2 → k1.rp S H2 (.ref p2) y → u D ((σ.set i (some (.ref p1))).set j (some (.ref p2))) H2) : tSeq (tPar i j (tCons ta (tCons tb tNil))) u D σ H :=
  h.use fun p1 H1 n1 s1 r1 => (g H1 s1).use fun p2 H2 n2 s2 r2 => ⟨_, _, rfl, q p1 p2 H1 H2 n1 s1 r1 n2 s2 r2⟩
theorem s_if (h : EvT H tt σ b) (p : ∀ H2, b = true → Same H H2 → t1 D σ H2) (q : ∀ H2, b = false → Same H H2 → t2 D σ H2) : tIfS tt t1 t2 D σ H := h.use fun H2 s => by
  cases b with
  | true => exact iteT (p H2 rfl s)
  | false => exact iteF (q H2 rfl s)
/-- if .. : return .. -/
theorem q_if (h : EvT H tt σ b) (p : ∀ H2, b = true → Same H H2 → t1 { D with nx := u D } σ H2) (q : ∀ H2, b = false → Same H H2 → u D σ H2) : tSeq (tIfS tt t1 tNext) u D σ H := h.use fun H2 s => by
  cases b with
  | true => exact iteT (p H2 rfl s)
  | false => exact iteF (q H2 rfl s)
theorem q_ifE (h : EvT H tt σ b) (p : ∀ H2, b = true → Same H H2 → t1 { D with nx := u D } σ H2) (q : ∀ H2, b = false → Same H H2 → t2 { D with nx := u D } σ H2) : tSeq (tIfS tt t1 t2) u D σ H := h.use fun H2 s => by
  cases b with
  | true => exact iteT (p H2 rfl s)
  | false => exact iteF (q H2 rfl s)
end
end Ew
namespace Ew
open PySem PySem.Spec PyProof.Rows L2
/-! ### defs, books -/
structure DefAt (K : PySem.W.Frag) (mg : Str → Option Value) (x : Str) (st : Stmt) (ps : List Str) : Prop where
  ex : ∃ f fd, Fun K x x st f fd ∧ Binds K fd ps [] ∧ mg x = some (.ref f)
structure Bk where
  ds : List Int
  rs : List (Int × List Int)
section
variable {K : PySem.W.Frag} {C : Addr} {S : List Addr} {H H' : Hp}
theorem RdT.sx {v : V} {r : Int × List Int} (f : Fr C S H) (s : Sx C S H H') (h : RdT K H v r) : RdT K H' v r := let ⟨t, m, e, q, q2⟩ := h; ⟨t, m, e, sqT_sx f s q, sqT_sx f s q2⟩
def kBk : Kd K C Bk where
  rp S H v b := ∃ x dx A R us, v = .ref x ∧ H x = some (.ins C dx (bf A R)) ∧ H A = some (.lst (b.ds.map V.int)) ∧ H R = some (.lst us) ∧ A ∉ S ∧ R ∉ S ∧ Paired (RdT K H) us b.rs ∧ DsOk b.ds b.rs
  same s h := let ⟨x, dx, A, R, us, e, h1, h2, h3, n1, n2, p, o⟩ := h; ⟨x, dx, A, R, us, e, s _ _ h1, s _ _ h2, s _ _ h3, n1, n2, L2.Paired.mapP p fun _ _ z => z.same s, o⟩
  sx {S H H' v b} f s h := by
    obtain ⟨x, dx, A, R, us, e, h1, h2, h3, n1, n2, p, o⟩ := h
    refine ⟨x, dx, A, R, us, e, s.old _ _ (fun m => ?_) h1, s.old _ _ n1 h2, s.old _ _ n2 h3, n1, n2, L2.Paired.mapP p fun _ _ z => z.sx f s, o⟩
    obtain ⟨o, e, w⟩ := f _ m
    rw [h1] at e
    cases e
    exact w rfl
  new {S H p v b} hn h := by
    obtain ⟨x, dx, A, R, us, e, h1, h2, h3, n1, n2, pp, o⟩ := h
    refine ⟨x, dx, A, R, us, e, h1, h2, h3, fun m => ?_, fun m => ?_, pp, o⟩
    · rcases List.mem_cons.mp m with rfl | m
      · rw [hn] at h2; cases h2
      · exact n1 m
    · rcases List.mem_cons.mp m with rfl | m
      · rw [hn] at h3; cases h3
      · exact n2 m
  less m h := let ⟨x, dx, A, R, us, e, h1, h2, h3, n1, n2, p, o⟩ := h; ⟨x, dx, A, R, us, e, h1, h2, h3, fun z => n1 (m _ z), fun z => n2 (m _ z), p, o⟩
theorem kBk.ok {v : V} {b : Bk} (h : (kBk (K := K) (C := C)).rp S H v b) : DsOk b.ds b.rs := let ⟨_, _, _, _, _, _, _, _, _, _, _, _, o⟩ := h; o
/-- (limit, may) -/
abbrev kR : Kd K C (Int × List Int) := kP kI (kT kI)
theorem rd_kR {v : V} {r : Int × List Int} (h : RdT K H v r) (b : r.2.length ≤ 1000000) : (kR (K := K) (C := C)).rp S H v r := let ⟨t, m, e, q, q2⟩ := h; ⟨t, _, .ref m, e, q, rfl, m, _, rfl, q2, paired_ints _, b⟩
theorem kR_rd {v : V} {r : Int × List Int} (h : (kR (K := K) (C := C)).rp S H v r) : RdT K H v r := by
  obtain ⟨t, v1, v2, e, q, h1, h2⟩ := h
  obtain ⟨m, rfl, q2, _⟩ := kT_ints h2
  cases (show v1 = .int r.1 from h1)
  exact ⟨t, m, e, q, q2⟩
theorem DsOk.may {ds : List Int} {rs : List (Int × List Int)} (o : DsOk ds rs) {r : Int × List Int} (h : r ∈ rs) : r.2.length ≤ 6 := by
  have h1 := (o.ok r h).2.2.len (by omega)
  have := o.n6
  omega
theorem rds_kR {us : List V} {rs : List (Int × List Int)} (h : Paired (RdT K H) us rs) (b : ∀ r ∈ rs, r.2.length ≤ 1000000) : Paired ((kR (K := K) (C := C)).rp S H) us rs := by
  induction h with
  | nil => exact .nil
  | cons a t ih => exact .cons (rd_kR a (b _ (by simp))) (ih fun r hr => b r (by simp [hr]))
theorem kBk.isBook {v : V} {b : Bk} (h : (kBk (K := K) (C := C)).rp S H v b) : ∃ f x us, v = .ref x ∧ IsBook K C f H x b.ds us b.rs := by
  obtain ⟨x, dx, A, R, us, e, h1, h2, h3, n1, n2, p, o⟩ := h
  have a1 : A ≠ A + R + 1 := Nat.ne_of_lt (Nat.lt_succ_of_le (Nat.le_add_right _ _))
  have a2 : R ≠ A + R + 1 := Nat.ne_of_lt (Nat.lt_succ_of_le (Nat.le_add_left _ _))
  exact ⟨A + R + 1, x, us, e, dx, A, R, h1, h2, h3, a1, a2, p⟩
abbrev sLenB : Stmt := (inClass (top 15) 3)
def spLenB (K : PySem.W.Frag) (C : Addr) : Sp := fun vs H Q _ => ∃ (f x : Addr) (ds : List Int) (us : List V) (rs : List (Int × List Int)), vs = [.ref x] ∧ IsBook K C f H x ds us rs ∧ Q (.int ds.length) H
theorem scLenB : FnScope ["self"] ["self"] (defScope sLenB) := ⟨rfl, rfl, rfl, by decide +kernel, rfl, by decide +kernel, by decide +kernel⟩
theorem ok_lenB {P : Program} {w : World} {mg : Str → Option Value} {base : Heap} {f : Addr} {fd : FuncData} (F : Fun K "__len__" "Book.__len__" sLenB f fd) (B : Bi mg) (T : BookTxt K mg C) : FnOk P w K mg base CX0 1 f fd ["self"] (spLenB K C) := by
  refine F.ok scLenB (fun vs H Q E h => ?_) (fun cdv A outer s H vs Q E hr h => ?_)
  · obtain ⟨f, x, ds, us, rs, rfl, _⟩ := h
    rfl
  · obtain ⟨f, x, ds, us, rs, rfl, ⟨dx, A, R, h1, h2, h3, h4, h5, h6⟩, q⟩ := h
    refine ⟨_, pss_one (ps_ret (pe_callB call_len_seq (by rfl) B.len PySem.boot_len (pa_cons (pe_fld (pv 0) rfl) pa_nil))), ?_⟩
    refine ⟨_, rfl, x, C, dx, _, _, rfl, h1, T.cl, T.nD, bf_dem _ _, A, _, rfl, .inl (.inl (.inl h2)), ?_⟩
    rw [List.length_map]
    exact q
/-- what is known of the class, as the rules want it -/
structure BkC (P : Program) (w : World) (K : PySem.W.Frag) (mg : Str → Option Value) (base : Heap) (C : Addr) : Prop where
  dem : C8.Met P w K mg base 1 C "demands" (spBkDem K C) []
  rd : C8.Met P w K mg base 1 C "readers" (spBkRd K C) []
  ln : C8.Met P w K mg base 1 C "__len__" (spLenB K C) []
  eq : C8.Met P w K mg base 1 C "__eq__" (spBkEq K C) []
  mak : C8.Mak P w K mg base 4 "Book" C (spBkInit K C) []
  ic : C8.InsC K C
  sub : PySem.W.notFirst K C (.ref C) = true
end
section
variable {P : Program} {w : World} {K : PySem.W.Frag} {mg : Str → Option Value} {base : Heap} {C : Addr}
theorem bkC_of (T : BookTxt K mg C) (V1 : Vals1 K mg) (N : NoBook K C) (LN : ∃ f fd, Fun K "__len__" "Book.__len__" sLenB f fd ∧ Binds K fd ["self"] [] ∧ Meth K C "__len__" f) : BkC P w K mg base C := by
  have B := V1.bi
  obtain ⟨f, fd, F, b, m⟩ := T.dem
  obtain ⟨f2, fd2, F2, b2, m2⟩ := T.rd
  obtain ⟨f3, fd3, F3, b3, m3⟩ := LN
  obtain ⟨f4, fd4, F4, b4, m4⟩ := T.eq
  obtain ⟨f5, fd5, F5, b5, m5⟩ := T.init
  exact ⟨⟨f, fd, _, _, T.cl, m, ok_bkDem F B T, b, .nil⟩, ⟨f2, fd2, _, _, T.cl, m2, ok_bkRd F2 B T, b2, .nil⟩, ⟨f3, fd3, _, _, T.cl, m3, ok_lenB F3 B T, b3, .nil⟩, ⟨f4, fd4, _, _, T.cl, m4, ok_bkEq F4 B T N, b4, .nil⟩, ⟨f5, fd5, _, _, m5, ok_bkInit F5 V1 T, T.mgC, b5, .nil⟩, T.ic, T.sub⟩
/-- a def on data by its body -/
theorem cal_of {x : Str} {st : Stmt} {N ps : List Str} {k : Nat} {sp : Sp} (D : DefAt K mg x st ps) (sc : FnScope N ps (defScope st)) (len : ∀ vs H Q E, sp vs H Q E → vs.length = ps.length)
    (hbody : ∀ (f : Addr) (cdv : Value) (A : Around) (outer : List Env) (s : Shared) (H : Hp) (vs : List V) (Q : VK) (E : XK), Room k (A.deeper (envOfC x (defScope st) s.heap.objs.size f cdv)) → sp vs H Q E →
      ∃ t, PSs (cxOf CX0 P w K mg base N x (defScope st) f cdv A outer s H E).nox (defBody st) t ∧ t { nx := fun _ H' => Q .non H', rt := Q } (start N vs) H) : C8.Cal P w K mg base (k + 1) x sp [] := by
  obtain ⟨f, fd, F, b, g⟩ := D.ex
  exact ⟨f, fd, ps, [], F.ok sc len (hbody f), g, F.kp, b, .nil⟩
variable {τ β : Type} {ks : Ka K C τ} {kr : Kd K C β} {pre : τ → Prop} {g : τ → β}
theorem calD {x : Str} {st : Stmt} {N ps : List Str} {k : Nat} (D : DefAt K mg x st ps) (sc : FnScope N ps (defScope st)) (hn : ks.n = ps.length)
    (hbody : ∀ (f : Addr) (cdv : Value) (A : Around) (outer : List Env) (s : Shared) (H : Hp) (vs : List V) (Q : VK) (E : XK) (S : List Addr) (a : τ), Room k (A.deeper (envOfC x (defScope st) s.heap.objs.size f cdv)) → Fr C S H → ks.rps S H vs a → pre a → (∀ v H', Same H H' → kr.rp S H' v (g a) → Q v H') →
      ∃ t, PSs (cxOf CX0 P w K mg base N x (defScope st) f cdv A outer s H E).nox (defBody st) t ∧ t { nx := fun _ H' => Q .non H', rt := Q } (start N vs) H) : C8.Cal P w K mg base (k + 1) x (spD ks kr pre g) [] :=
  cal_of D sc (fun vs H Q E ⟨S, a, _, h, _⟩ => by rw [ks.len h, hn]) fun f cdv A outer s H vs Q E hr ⟨S, a, h1, h2, h3, h4⟩ => hbody f cdv A outer s H vs Q E S a hr h1 h2 h3 h4
theorem calN {x : Str} {st : Stmt} {N ps : List Str} {k : Nat} (D : DefAt K mg x st ps) (sc : FnScope N ps (defScope st)) (hn : ks.n = ps.length)
    (hbody : ∀ (f : Addr) (cdv : Value) (A : Around) (outer : List Env) (s : Shared) (H : Hp) (vs : List V) (Q : VK) (E : XK) (S : List Addr) (a : τ), Room k (A.deeper (envOfC x (defScope st) s.heap.objs.size f cdv)) → Fr C S H → ks.rps S H vs a → pre a → (∀ p H', H p = none → Same H H' → kr.rp S H' (.ref p) (g a) → Q (.ref p) H') →
      ∃ t, PSs (cxOf CX0 P w K mg base N x (defScope st) f cdv A outer s H E).nox (defBody st) t ∧ t { nx := fun _ H' => Q .non H', rt := Q } (start N vs) H) : C8.Cal P w K mg base (k + 1) x (spN ks kr pre g) [] :=
  cal_of D sc (fun vs H Q E ⟨S, a, _, h, _⟩ => by rw [ks.len h, hn]) fun f cdv A outer s H vs Q E hr ⟨S, a, h1, h2, h3, h4⟩ => hbody f cdv A outer s H vs Q E S a hr h1 h2 h3 h4
variable {S : List Addr} {H : Hp} {σ : L2.St} {te : TE} {b : Bk}
theorem evn_dem (h : Ev (kBk (K := K) (C := C)) S H te σ b) (fr : Fr C S H) : EvN (K := K) (C := C) (kL kI) S H (tMeth C "demands" (spBkDem K C) [] E0 te tNil) σ b.ds := fun H1 s Q q => h H1 s _ fun v H2 s2 r => by
  obtain ⟨x, dx, A, R, us, rfl, h1, h2, h3, n1, n2, p, o⟩ := id r
  obtain ⟨f, x', us', e, hb⟩ := kBk.isBook r
  cases e
  refine ⟨x, dx, _, rfl, h1, bf_no _ _ (by decide +kernel) (by decide +kernel), f, x, b.ds, us', b.rs, rfl, hb, fun H3 c s3 nc hc => ?_⟩
  exact q c H3 (s2.free nc) (s2.trans s3) ⟨c, _, rfl, (fr.same (s.trans s2)).out nc, hc, paired_ints _, Nat.le_trans o.n6 (by decide)⟩
theorem evn_rd (h : Ev (kBk (K := K) (C := C)) S H te σ b) (fr : Fr C S H) : EvN (K := K) (C := C) (kL kR) S H (tMeth C "readers" (spBkRd K C) [] E0 te tNil) σ b.rs := fun H1 s Q q => h H1 s _ fun v H2 s2 r => by
  obtain ⟨x, dx, A, R, us, rfl, h1, h2, h3, n1, n2, p, o⟩ := id r
  obtain ⟨f, x', us', e, hb⟩ := kBk.isBook r
  cases e
  refine ⟨x, dx, _, rfl, h1, bf_no _ _ (by decide +kernel) (by decide +kernel), f, x, b.ds, us', b.rs, rfl, hb, fun H3 c s3 nc hc => ?_⟩
  have p' : Paired (RdT K H2) us' b.rs := let ⟨_, _, _, _, _, _, _, _, z⟩ := hb; z
  exact q c H3 (s2.free nc) (s2.trans s3) ⟨c, _, rfl, (fr.same (s.trans s2)).out nc, hc, rds_kR (L2.Paired.mapP p' fun _ _ z => z.same s3) fun r hr => Nat.le_trans (o.may hr) (by decide), Nat.le_trans o.r6 (by decide)⟩
def rLenBk (K : PySem.W.Frag) (C : Addr) : List V → Hp → VK → Prop := fun xs H Q => ∃ a dx fs, xs = [.ref a] ∧ H a = some (.ins C dx fs) ∧ spLenB K C [.ref a] H (fun v H' => ∃ k : Int, v = .int k ∧ (0 ≤ k ∧ k < 2 ^ 63) ∧ Q (.int k) H') C8.E0
theorem ev_lenBk (h : Ev (kBk (K := K) (C := C)) S H te σ b) : Ev (K := K) (C := C) kI S H (tCB (rLenBk K C) (tCons te tNil)) σ (b.ds.length : Nat) :=
  ev_cb (eva_cons h eva_nil) fun vs H1 s rv Q q => by
    obtain ⟨v, r, rfl, r1, e⟩ := rv
    cases (show r = [] from e)
    obtain ⟨x, dx, A, R, us, rfl, h1, h2, h3, n1, n2, p, o⟩ := id r1
    obtain ⟨f, x', us', e, hb⟩ := kBk.isBook r1
    cases e
    have n6 : b.ds.length ≤ 6 := o.n6
    exact ⟨x, dx, _, rfl, h1, f, x, b.ds, us', b.rs, rfl, hb, _, rfl, by constructor <;> omega, q _ H1 (Same.refl _) rfl⟩
def rEqBk (K : PySem.W.Frag) (C : Addr) : R2 := rOwnEq K C (spBkEq K C) false
theorem ev_eqBk {b b' : Bk} {tb : TE} (h : Ev (kBk (K := K) (C := C)) S H te σ b) (g : Ev (kBk (K := K) (C := C)) S H tb σ b') (ic : C8.InsC K C) (sub : PySem.W.notFirst K C (.ref C) = true) : Ev (K := K) (C := C) kB S H (tOp (rEqBk K C) te tb) σ (decide (b.ds = b'.ds) && decide (b.rs = b'.rs)) :=
  ev_op2 h g fun v w H1 s r1 r2 Q q => by
    obtain ⟨x, dx, A, R, us, rfl, h1, _⟩ := id r1
    obtain ⟨y, dy, A', R', us', rfl, k1, _⟩ := id r2
    obtain ⟨f, x', ux, e, hb⟩ := kBk.isBook r1
    cases e
    obtain ⟨f2, y', uy, e, hb2⟩ := kBk.isBook r2
    cases e
    exact ⟨x, dx, _, _, rfl, h1, .base (.ins k1 ic.cl ic.ha ic.hn ic.htk ic.hm), sub, f, x, _, b.ds, ux, b.rs, rfl, hb, .inl ⟨f2, y, b'.ds, uy, b'.rs, rfl, hb2, _, rfl, q _ H1 (Same.refl _) rfl⟩⟩
theorem kR_rds {us : List V} {rs : List (Int × List Int)} (h : Paired ((kR (K := K) (C := C)).rp S H) us rs) : Paired (RdT K H) us rs := L2.Paired.mapP h fun _ _ z => kR_rd z
/-- Book(demands, readers) -/
theorem evn_mkBk {ds : List Int} {rs : List (Int × List Int)} {tb : TE} (h : Ev (kL (kI (K := K) (C := C))) S H te σ ds) (g : Ev (kL (kR (K := K) (C := C))) S H tb σ rs) (fr : Fr C S H) (o : DsOk ds rs) : EvN (K := K) (C := C) kBk S H (tMake C (spBkInit K C) [] C8.E0 (tCons te (tCons tb tNil))) σ ⟨ds, rs⟩ := fun H1 s Q q => (eva_cons h (eva_cons g eva_nil)) H1 s _ fun vs H2 s2 rv => by
  obtain ⟨v1, r1, rfl, h1, v2, r2, e, h2, e2⟩ := rv
  cases (show r1 = _ from e)
  cases (show r2 = [] from e2)
  obtain ⟨A1, rfl, nA1, hA1, _⟩ := kL_ints h1
  obtain ⟨R1, us, rfl, nR1, hR1, pR, _⟩ := h2
  intro x dx nx ndx nex
  have s0 : Same H2 (upd (upd H2 dx (.own x)) x (.ins C dx [])) := .of fun b o e => by
    rw [upd_ne (ne_of_none e nx), upd_ne (ne_of_none e ndx)]
    exact e
  have pr := kR_rds pR
  refine ⟨x, dx, A1, R1, ds, us, rs, rfl, upd_same, s0.seq (.inl (.inl hA1)), s0.seq (.inl (.inl hR1)), L2.Paired.mapP pr fun _ _ z => z.same s0, o, fun H4 A2 R2 keep nA nR hx hA2 hR2 => ⟨rfl, ?_⟩⟩
  have s4 : Same H2 H4 := keep H2 s0 nx
  have f2 := fr.same (s.trans s2)
  have nA2 : H2 A2 = none := s0.free nA
  have nR2 : H2 R2 = none := s0.free nR
  exact q x H4 (s2.free nx) (s2.trans s4) ⟨x, dx, A2, R2, us, rfl, hx, hA2, hR2, f2.out nA2, f2.out nR2, L2.Paired.mapP pr fun _ _ z => z.same s4, o⟩
theorem ev_mayT {r : Int × List Int} (h : Ev (kR (K := K) (C := C)) S H te σ r) : Ev (kT (kI (K := K) (C := C))) S H (tOp (rIxT K) te (tC (.int 1))) σ r.2 := ev_snd h
end
section
variable {X : Cx} {C : Addr} {j : Nat}
theorem call_lenBk (T : BkC X.prog X.w X.K X.mg X.base C) (hr : Room j X.A) (hj : 2 ≤ j) : CallR X (.builtin "len") (rLenBk X.K C) := by
  obtain ⟨f, fd, ps, ds, c, m, F, b, d⟩ := T.ln.ex
  cases d
  exact call_lenOwn F (hr.mono hj) m.at_ m.fn b
theorem op_eqBk (T : BkC X.prog X.w X.K X.mg X.base C) (hr : Room j X.A) (hj : 1 ≤ j) : OpR X (compareOp .Eq) (rEqBk X.K C) := by
  obtain ⟨f, fd, ps, ds, c, m, F, b, d⟩ := T.eq.ex
  cases d
  exact op_eqOwn F (hr.mono hj) m.at_ m.fn b
end
end Ew
namespace Ew
open PySem PySem.Spec PyProof.Rows L2
def presB (b : Bk) (as : List Int) : List Int := (iota b.rs.length).filter fun r => !decide (r ∈ as)
def freeB (b : Bk) (ws : List (List Int)) (r : Int) : Bool := decide (((at_ ws r).length : Int) < (at_ b.rs r).1)
def canB (b : Bk) (ws : List (List Int)) (r w : Int) : Bool := decide (w ∈ (at_ b.rs r).2) && !decide (w ∈ at_ ws r)
def takersB (b : Bk) (ws : List (List Int)) (as : List Int) (w : Int) : List Int := (presB b as).filter fun r => canB b ws r w
def looseB (kw ws : List (List Int)) (r : Int) : List Int := (at_ ws r).filter fun w => !decide (w ∈ at_ kw r)
/-- the number of a reader -/
def IsRd (b : Bk) (ws : List (List Int)) (r : Int) : Prop := (0 ≤ r ∧ r < ws.length) ∧ ws.length = b.rs.length
theorem presB_len (b : Bk) (as : List Int) : (presB b as).length ≤ b.rs.length := by
  unfold presB
  exact Nat.le_trans (List.length_filter_le _ _) (by rw [iota_len]; omega)
theorem IsRd.of {b : Bk} {ws : List (List Int)} {as : List Int} {r : Int} (h : ws.length = b.rs.length) (m : r ∈ presB b as) : IsRd b ws r := by
  unfold presB at m
  have := iota_mem.mp (List.mem_filter.mp m).1
  exact ⟨by omega, h⟩
section
variable {P : Program} {w : World} {K : PySem.W.Frag} {mg : Str → Option Value} {base : Heap} {C : Addr}
abbrev sPresent : Stmt := (top 17)
def sp_present_readers (K : PySem.W.Frag) (C : Addr) : Sp := spN (K := K) (C := C) (aC kBk (aC (kT kI) aN)) (kL kI) (fun (b , as , _) => True) fun (b, as, _) => presB b as
theorem scPresent : FnScope ["book", "absent", "reader"] ["book", "absent"] (defScope sPresent) := ⟨rfl, rfl, rfl, by decide +kernel, rfl, by decide +kernel, by decide +kernel⟩
theorem c_present_readers (D : DefAt K mg "present_readers" sPresent ["book", "absent"]) (B : Bi mg) (T : BkC P w K mg base C)   : C8.Cal P w K mg base 2 "present_readers" (sp_present_readers K C) [] := by
  refine calN D scPresent rfl fun f cdv A outer s H vs Q E S a hr fr ha hp q => ?_
  obtain ⟨b, as, _⟩ := a
  obtain ⟨w_book, _, rfl, h_book, w_absent, _, rfl, h_absent, e⟩ := ha
  cases (show _ = [] from e)
  have h_book : (kBk : Kd K C _).rp S H w_book b := h_book
  have h_absent : ((kT kI) : Kd K C _).rp S H w_absent as := h_absent
  have ok_book := kBk.ok h_book
  have r6_book := ok_book.r6
  have n6_book := ok_book.n6
  have n1_book := ok_book.n1
  have n_absent := kT_len h_absent
  have q : ∀ p H', H p = none → Same H H' → ((kL kI) : Kd K C _).rp S H' (.ref p) (presB b as) → Q (.ref p) H' := q

  refine ⟨_, (pss_one (ps_ret (pe_lc (own := [("reader", 2)]) (g := (gName 2)) (tt := (tTest (tOp (rIn K true) (tVar 2) (tVar 1)))) (te := (tVar 2)) rfl scPresent.nd (pi_range1 rfl B.range (pa_cons (pe_callB call_len_seq (by rfl) B.len PySem.boot_len (pa_cons (C8.pe_mt0 T.rd hr (by decide) (pv 0)) pa_nil)) pa_nil)) (blkOk_by (own := [("reader", 2)]) (N := ["book", "absent", "reader"]) (sc := defScope sPresent) (by decide +kernel)) (fun _ _ _ _ _ => (pg_name (i := 2) scPresent.nd rfl (.inl rfl))) (fun _ _ _ _ _ => pts_one (pt_cmpR op_notIn_seq (pv 2) (pv 1) (by rfl))) (fun _ _ _ _ _ => (pv 2))))), ?_⟩
  try dsimp only [cxOf, Cx.nox, Cx.wish]
  exact s_retN (EvN.to (evn_lc fr (evi_rng (ev_len (EvN.ev (evn_rd (ev_var rfl h_book Lf.refl) fr)) IsSq.l) (by first | omega | (dsimp only; omega)) (by first | omega | (dsimp only; omega))) (by rw [iota_len]; omega) (fun y1 hy1 D1 v1 H1 l1 f1 hv1 => lcb_name rfl (evt_test (ev_nin (ev_var rfl hv1 Lf.refl) (ev_var rfl h_absent l1) IsSq.t)) (fun ht1 => (ev_var rfl hv1 Lf.refl)))) (List.map_id' _)) fun p H' n s' r => q p H' n s' r

abbrev sFree : Stmt := (top 22)
def sp_is_free (K : PySem.W.Frag) (C : Addr) : Sp := spD (K := K) (C := C) (aC kBk (aC (kL (kT kI)) (aC kI aN))) kB (fun (b , ws , r , _) => IsRd b ws r) fun (b, ws, r, _) => freeB b ws r
theorem scFree : FnScope ["book", "rows", "reader"] ["book", "rows", "reader"] (defScope sFree) := ⟨rfl, rfl, rfl, by decide +kernel, rfl, by decide +kernel, by decide +kernel⟩
theorem c_is_free (D : DefAt K mg "is_free" sFree ["book", "rows", "reader"]) (B : Bi mg) (T : BkC P w K mg base C)   : C8.Cal P w K mg base 2 "is_free" (sp_is_free K C) [] := by
  refine calD D scFree rfl fun f cdv A outer s H vs Q E S a hr fr ha hp q => ?_
  obtain ⟨b, ws, r, _⟩ := a
  obtain ⟨w_book, _, rfl, h_book, w_rows, _, rfl, h_rows, w_reader, _, rfl, h_reader, e⟩ := ha
  cases (show _ = [] from e)
  have h_book : (kBk : Kd K C _).rp S H w_book b := h_book
  have h_rows : ((kL (kT kI)) : Kd K C _).rp S H w_rows ws := h_rows
  have h_reader : (kI : Kd K C _).rp S H w_reader r := h_reader
  have ok_book := kBk.ok h_book
  have r6_book := ok_book.r6
  have n6_book := ok_book.n6
  have n1_book := ok_book.n1
  have n_rows := kL_len h_rows
  have q : ∀ v H', Same H H' → (kB : Kd K C _).rp S H' v (freeB b ws r) → Q v H' := q
  obtain ⟨⟨p1, p2⟩, p3⟩ : IsRd b ws r := hp
  refine ⟨_, (pss_one (ps_ret (pe_cmpR op_lt (pe_callB call_len_seq (by rfl) B.len PySem.boot_len (pa_cons (pe_ix ix_list (pv 1) (pv 2) (fun _ _ => rfl)) pa_nil)) (pe_ix ix_tup (pe_ix ix_list (C8.pe_mt0 T.rd hr (by decide) (pv 0)) (pv 2) (fun _ _ => rfl)) pe_int (fun _ _ => rfl)) (nomark _)))), ?_⟩
  try dsimp only [cxOf, Cx.nox, Cx.wish]
  exact s_ret (Ev.to (ev_B2 (ev_len (ev_ixL (ev_var rfl h_rows Lf.refl) (ev_var rfl h_reader Lf.refl) (by first | omega | (dsimp only; omega))) IsSq.t) (ev_fst (ev_ixL (EvN.ev (evn_rd (ev_var rfl h_book Lf.refl) fr)) (ev_var rfl h_reader Lf.refl) (by first | omega | (dsimp only; omega))))) rfl) fun v H' s' r => q v H' s' r

abbrev sCanT : Stmt := (top 23)
def sp_can_take (K : PySem.W.Frag) (C : Addr) : Sp := spD (K := K) (C := C) (aC kBk (aC (kL (kT kI)) (aC kI (aC kI aN)))) kB (fun (b , ws , r , z , _) => IsRd b ws r) fun (b, ws, r, z, _) => canB b ws r z
theorem scCanT : FnScope ["book", "rows", "reader", "work"] ["book", "rows", "reader", "work"] (defScope sCanT) := ⟨rfl, rfl, rfl, by decide +kernel, rfl, by decide +kernel, by decide +kernel⟩
theorem c_can_take (D : DefAt K mg "can_take" sCanT ["book", "rows", "reader", "work"]) (B : Bi mg) (T : BkC P w K mg base C)   : C8.Cal P w K mg base 2 "can_take" (sp_can_take K C) [] := by
  refine calD D scCanT rfl fun f cdv A outer s H vs Q E S a hr fr ha hp q => ?_
  obtain ⟨b, ws, r, z, _⟩ := a
  obtain ⟨w_book, _, rfl, h_book, w_rows, _, rfl, h_rows, w_reader, _, rfl, h_reader, w_work, _, rfl, h_work, e⟩ := ha
  cases (show _ = [] from e)
  have h_book : (kBk : Kd K C _).rp S H w_book b := h_book
  have h_rows : ((kL (kT kI)) : Kd K C _).rp S H w_rows ws := h_rows
  have h_reader : (kI : Kd K C _).rp S H w_reader r := h_reader
  have h_work : (kI : Kd K C _).rp S H w_work z := h_work
  have ok_book := kBk.ok h_book
  have r6_book := ok_book.r6
  have n6_book := ok_book.n6
  have n1_book := ok_book.n1
  have n_rows := kL_len h_rows
  have q : ∀ v H', Same H H' → (kB : Kd K C _).rp S H' v (canB b ws r z) → Q v H' := q
  obtain ⟨⟨p1, p2⟩, p3⟩ : IsRd b ws r := hp
  refine ⟨_, (pss_one (ps_ret (pe_and (pe_cmpR op_in_seq (pv 3) (pe_ix ix_tup (pe_ix ix_list (C8.pe_mt0 T.rd hr (by decide) (pv 0)) (pv 2) (fun _ _ => rfl)) pe_int (fun _ _ => rfl)) (by rfl)) (pe_one (pe_cmpR op_notIn_seq (pv 3) (pe_ix ix_list (pv 1) (pv 2) (fun _ _ => rfl)) (by rfl)))))), ?_⟩
  try dsimp only [cxOf, Cx.nox, Cx.wish]
  exact s_ret (Ev.to (ev_andV (ev_in (ev_var rfl h_work Lf.refl) (ev_snd (ev_ixL (EvN.ev (evn_rd (ev_var rfl h_book Lf.refl) fr)) (ev_var rfl h_reader Lf.refl) (by first | omega | (dsimp only; omega)))) IsSq.t) (fun _ => (ev_nin (ev_var rfl h_work Lf.refl) (ev_ixL (ev_var rfl h_rows Lf.refl) (ev_var rfl h_reader Lf.refl) (by first | omega | (dsimp only; omega))) IsSq.t))) rfl) fun v H' s' r => q v H' s' r

abbrev sTakers : Stmt := (top 24)
def sp_takers (K : PySem.W.Frag) (C : Addr) : Sp := spN (K := K) (C := C) (aC kBk (aC (kL (kT kI)) (aC (kT kI) (aC kI aN)))) (kL kI) (fun (b , ws , as , z , _) => ws.length = b.rs.length) fun (b, ws, as, z, _) => takersB b ws as z
theorem scTakers : FnScope ["book", "rows", "absent", "work", "reader"] ["book", "rows", "absent", "work"] (defScope sTakers) := ⟨rfl, rfl, rfl, by decide +kernel, rfl, by decide +kernel, by decide +kernel⟩
theorem c_takers (D : DefAt K mg "takers" sTakers ["book", "rows", "absent", "work"]) (B : Bi mg) (T : BkC P w K mg base C) (c_present_readers : C8.Cal P w K mg base 2 "present_readers" (sp_present_readers K C) []) (c_can_take : C8.Cal P w K mg base 2 "can_take" (sp_can_take K C) [])  : C8.Cal P w K mg base 3 "takers" (sp_takers K C) [] := by
  refine calN D scTakers rfl fun f cdv A outer s H vs Q E S a hr fr ha hp q => ?_
  obtain ⟨b, ws, as, z, _⟩ := a
  obtain ⟨w_book, _, rfl, h_book, w_rows, _, rfl, h_rows, w_absent, _, rfl, h_absent, w_work, _, rfl, h_work, e⟩ := ha
  cases (show _ = [] from e)
  have h_book : (kBk : Kd K C _).rp S H w_book b := h_book
  have h_rows : ((kL (kT kI)) : Kd K C _).rp S H w_rows ws := h_rows
  have h_absent : ((kT kI) : Kd K C _).rp S H w_absent as := h_absent
  have h_work : (kI : Kd K C _).rp S H w_work z := h_work
  have ok_book := kBk.ok h_book
  have r6_book := ok_book.r6
  have n6_book := ok_book.n6
  have n1_book := ok_book.n1
  have n_rows := kL_len h_rows
  have n_absent := kT_len h_absent
  have q : ∀ p H', H p = none → Same H H' → ((kL kI) : Kd K C _).rp S H' (.ref p) (takersB b ws as z) → Q (.ref p) H' := q
  have hp : ws.length = b.rs.length := hp
  refine ⟨_, (pss_one (ps_ret (pe_lc (own := [("reader", 4)]) (g := (gName 4)) (tt := (tB (tCall (sp_can_take K C) [] C8.E0 (tCons (tVar 0) (tCons (tVar 1) (tCons (tVar 4) (tCons (tVar 3) tNil))))))) (te := (tVar 4)) rfl scTakers.nd (pi_list (C8.pe_c c_present_readers hr (by decide) (by rfl) (pa_cons (pv 0) (pa_cons (pv 2) pa_nil)))) (blkOk_by (own := [("reader", 4)]) (N := ["book", "rows", "absent", "work", "reader"]) (sc := defScope sTakers) (by decide +kernel)) (fun _ _ _ _ _ => (pg_name (i := 4) scTakers.nd rfl (.inl rfl))) (fun _ _ _ _ _ => pts_one (pt_val (C8.pe_c c_can_take hr (by decide) (by rfl) (pa_cons (pv 0) (pa_cons (pv 1) (pa_cons (pv 4) (pa_cons (pv 3) pa_nil))))))) (fun _ _ _ _ _ => (pv 4))))), ?_⟩
  try dsimp only [cxOf, Cx.nox, Cx.wish]
  exact s_retN (EvN.to (evn_lc fr (evi_list (EvN.ev (evn_call (eva_cons (ev_var rfl h_book Lf.refl) (eva_cons (ev_var rfl h_absent Lf.refl) eva_nil)) fr trivial))) (by dsimp only; have := presB_len b as; omega) (fun y1 hy1 D1 v1 H1 l1 f1 hv1 => lcb_name rfl (evt_b (ev_call (eva_cons (ev_var rfl h_book l1) (eva_cons (ev_var rfl h_rows l1) (eva_cons (ev_var rfl hv1 Lf.refl) (eva_cons (ev_var rfl h_work l1) eva_nil)))) f1 (IsRd.of hp hy1))) (fun ht1 => (ev_var rfl hv1 Lf.refl)))) (List.map_id' _)) fun p H' n s' r => q p H' n s' r

abbrev sLoose : Stmt := (top 25)
def sp_loose_works (K : PySem.W.Frag) (C : Addr) : Sp := spN (K := K) (C := C) (aC (kL (kT kI)) (aC (kL (kT kI)) (aC kI aN))) (kL kI) (fun (kw , ws , r , _) => (0 ≤ r ∧ r < ws.length) ∧ kw.length = ws.length) fun (kw, ws, r, _) => looseB kw ws r
theorem scLoose : FnScope ["kept", "rows", "reader", "work"] ["kept", "rows", "reader"] (defScope sLoose) := ⟨rfl, rfl, rfl, by decide +kernel, rfl, by decide +kernel, by decide +kernel⟩
theorem c_loose_works (D : DefAt K mg "loose_works" sLoose ["kept", "rows", "reader"]) (B : Bi mg) (T : BkC P w K mg base C)   : C8.Cal P w K mg base 1 "loose_works" (sp_loose_works K C) [] := by
  refine calN D scLoose rfl fun f cdv A outer s H vs Q E S a hr fr ha hp q => ?_
  obtain ⟨kw, ws, r, _⟩ := a
  obtain ⟨w_kept, _, rfl, h_kept, w_rows, _, rfl, h_rows, w_reader, _, rfl, h_reader, e⟩ := ha
  cases (show _ = [] from e)
  have h_kept : ((kL (kT kI)) : Kd K C _).rp S H w_kept kw := h_kept
  have h_rows : ((kL (kT kI)) : Kd K C _).rp S H w_rows ws := h_rows
  have h_reader : (kI : Kd K C _).rp S H w_reader r := h_reader
  have n_kept := kL_len h_kept
  have n_rows := kL_len h_rows
  have q : ∀ p H', H p = none → Same H H' → ((kL kI) : Kd K C _).rp S H' (.ref p) (looseB kw ws r) → Q (.ref p) H' := q
  obtain ⟨⟨p1, p2⟩, p3⟩ : (0 ≤ r ∧ r < ws.length) ∧ kw.length = ws.length := hp
  refine ⟨_, (pss_one (ps_ret (pe_lc (own := [("work", 3)]) (g := (gName 3)) (tt := (tTest (tOp (rIn K true) (tVar 3) (tOp (rIxL K) (tVar 0) (tVar 2))))) (te := (tVar 3)) rfl scLoose.nd (pi_tup (pe_ix ix_list (pv 1) (pv 2) (fun _ _ => rfl))) (blkOk_by (own := [("work", 3)]) (N := ["kept", "rows", "reader", "work"]) (sc := defScope sLoose) (by decide +kernel)) (fun _ _ _ _ _ => (pg_name (i := 3) scLoose.nd rfl (.inl rfl))) (fun _ _ _ _ _ => pts_one (pt_cmpR op_notIn_seq (pv 3) (pe_ix ix_list (pv 0) (pv 2) (fun _ _ => rfl)) (by rfl))) (fun _ _ _ _ _ => (pv 3))))), ?_⟩
  try dsimp only [cxOf, Cx.nox, Cx.wish]
  exact s_retN (EvN.to (evn_lc fr (evi_tup (ev_ixL (ev_var rfl h_rows Lf.refl) (ev_var rfl h_reader Lf.refl) (by first | omega | (dsimp only; omega)))) (kWs_len h_rows _ (at_mem (by omega))) (fun y1 hy1 D1 v1 H1 l1 f1 hv1 => lcb_name rfl (evt_test (ev_nin (ev_var rfl hv1 Lf.refl) (ev_ixL (ev_var rfl h_kept l1) (ev_var rfl h_reader l1) (by first | omega | (dsimp only; omega))) IsSq.t)) (fun ht1 => (ev_var rfl hv1 Lf.refl)))) (List.map_id' _)) fun p H' n s' r => q p H' n s' r
end
end Ew
namespace Ew
open PySem PySem.Spec PyProof.Rows L2
abbrev Link := Int × Int × Option Int
def keysOf (c : List (Int × List Link)) : List Int := c.map (·.1)
def getC (c : List (Int × List Link)) (t : Int) : List Link := ((c.find? fun p => decide (p.1 = t)).map (·.2)).getD []
def givesB (r t : Int) : List Int → List (Int × List Link) × List Int → List (Int × List Link) × List Int
  | [], s => s
  | g :: gs, (c, w) => if g ∈ keysOf c then givesB r t gs (c, w) else givesB r t gs (c ++ [(g, getC c t ++ [(r, t, some g)])], w ++ [g])
def readB (b : Bk) (kw ws : List (List Int)) (t : Int) : List Int → List (Int × List Link) × List Int → List Link ⊕ (List (Int × List Link) × List Int)
  | [], s => .inr s
  | r :: rs, (c, w) => if freeB b ws r = true then .inl (getC c t ++ [(r, t, none)]) else readB b kw ws t rs (givesB r t (looseB kw ws r) (c, w))
def stepN (b : Bk) (kw ws : List (List Int)) (as : List Int) : Nat → List (Int × List Link) → List Int → List Link ⊕ List Int
  | 0, c, _ => .inr (srt (keysOf c))
  | _ + 1, c, [] => .inr (srt (keysOf c))
  | n + 1, c, t :: w => match readB b kw ws t (takersB b ws as t) (c, w) with
    | .inl ch => .inl ch
    | .inr (c', w') => stepN b kw ws as n c' w'
def stepB (b : Bk) (kw ws : List (List Int)) (as : List Int) (z : Int) : List Link ⊕ List Int := stepN b kw ws as 20 [(z, [])] [z]
/-! how the search stands -/
structure SOk (n : Nat) (c : List (Int × List Link)) (w : List Int) : Prop where
  nd : (keysOf c).Nodup
  rg : ∀ g ∈ keysOf c, 0 ≤ g ∧ g < (n : Int)
  sub : ∀ g ∈ w, g ∈ keysOf c
  len : ∀ p ∈ c, p.2.length < c.length
theorem keys_snoc (c : List (Int × List Link)) (p : Int × List Link) : keysOf (c ++ [p]) = keysOf c ++ [p.1] := by
  unfold keysOf
  rw [List.map_append]
  rfl
theorem nd_one {a : Int} : ∀ {l : List Int}, l.Nodup → (∀ x ∈ l, x = a) → l.length ≤ 1
  | [], _, _ => Nat.zero_le _
  | [_], _, _ => Nat.le_refl _
  | x :: y :: l, nd, h => by
    have e : x = y := (h x (by simp)).trans (h y (by simp)).symm
    have := (List.nodup_cons.mp nd).1
    exact absurd (by rw [e]; simp) this
theorem nd_len : ∀ {n : Nat} {l : List Int}, l.Nodup → (∀ g ∈ l, 0 ≤ g ∧ g < (n : Int)) → l.length ≤ n
  | 0, [], _, _ => Nat.zero_le _
  | 0, x :: l, _, h => by have := h x (by simp); omega
  | n + 1, l, nd, h => by
    have h1 := split_len (fun x => decide (x = (n : Int))) l
    have h2 := nd_one (a := (n : Int)) (nd.filter fun x => decide (x = (n : Int))) fun x hx => by simpa using (List.mem_filter.mp hx).2
    have h3 := nd_len (n := n) (nd.filter fun x => !decide (x = (n : Int))) fun x hx => by
      have a := h x (List.mem_filter.mp hx).1
      have b : ¬ x = (n : Int) := by simpa using (List.mem_filter.mp hx).2
      omega
    omega
theorem SOk.le {n : Nat} {c w} (h : SOk n c w) : c.length ≤ n := by
  have := nd_len h.nd h.rg
  unfold keysOf at this
  rwa [List.length_map] at this
theorem getC_mem {c : List (Int × List Link)} {t : Int} (h : t ∈ keysOf c) : ∃ p ∈ c, p.1 = t ∧ p.2 = getC c t := by
  unfold keysOf at h
  obtain ⟨p, hp, e⟩ := List.mem_map.mp h
  cases q : c.find? fun p => decide (p.1 = t) with
  | none =>
    have := List.find?_eq_none.mp q p hp
    simp [e] at this
  | some p' =>
    have h1 := List.find?_some q
    have h2 := List.mem_of_find?_eq_some q
    refine ⟨p', h2, by simpa using h1, ?_⟩
    unfold getC
    rw [q]
    rfl
theorem getC_len {n : Nat} {c w} (h : SOk n c w) {t : Int} (ht : t ∈ keysOf c) : (getC c t).length < c.length := by
  obtain ⟨p, hp, _, e⟩ := getC_mem ht
  rw [← e]
  exact h.len p hp
theorem SOk.add {n : Nat} {c w} (h : SOk n c w) {r t g : Int} (ht : t ∈ keysOf c) (hg : 0 ≤ g ∧ g < (n : Int)) (hn : g ∉ keysOf c) : SOk n (c ++ [(g, getC c t ++ [(r, t, some g)])]) (w ++ [g]) := by
  have e := keys_snoc c (g, getC c t ++ [(r, t, some g)])
  refine ⟨?_, ?_, ?_, ?_⟩
  · rw [e]
    exact List.nodup_append.mpr ⟨h.nd, by simp, fun a ha b hb => by
      rw [List.mem_singleton.mp hb]
      exact fun z => hn (by rw [← show a = g from z]; exact ha)⟩
  · rw [e]
    intro x hx
    rcases List.mem_append.mp hx with hx | hx
    · exact h.rg x hx
    · rw [List.mem_singleton.mp hx]
      exact hg
  · rw [e]
    intro x hx
    rcases List.mem_append.mp hx with hx | hx
    · exact List.mem_append.mpr (.inl (h.sub x hx))
    · exact List.mem_append.mpr (.inr hx)
  · intro p hp
    rw [List.length_append, List.length_singleton]
    rcases List.mem_append.mp hp with hp | hp
    · have := h.len p hp
      omega
    · rw [List.mem_singleton.mp hp]
      have := getC_len h ht
      show (getC c t ++ [(r, t, some g)]).length < _
      rw [List.length_append, List.length_singleton]
      omega
/-- the measure -/
def mu (n : Nat) (c : List (Int × List Link)) (w : List Int) : Nat := (n - c.length) + w.length
theorem mu_add {n : Nat} {c w} (h : SOk n c w) {r t g : Int} (ht : t ∈ keysOf c) (hg : 0 ≤ g ∧ g < (n : Int)) (hn : g ∉ keysOf c) : mu n (c ++ [(g, getC c t ++ [(r, t, some g)])]) (w ++ [g]) = mu n c w := by
  have := (h.add (r := r) ht hg hn).le
  unfold mu
  rw [List.length_append, List.length_singleton] at *
  rw [List.length_append, List.length_singleton]
  omega
theorem gives_ok {n : Nat} {r t : Int} : ∀ {gs : List Int} {c w}, SOk n c w → t ∈ keysOf c → (∀ g ∈ gs, 0 ≤ g ∧ g < (n : Int)) → SOk n (givesB r t gs (c, w)).1 (givesB r t gs (c, w)).2 ∧ t ∈ keysOf (givesB r t gs (c, w)).1 ∧ mu n (givesB r t gs (c, w)).1 (givesB r t gs (c, w)).2 = mu n c w
  | [], _, _, h, ht, _ => ⟨h, ht, rfl⟩
  | g :: gs, c, w, h, ht, hg => by
    unfold givesB
    by_cases hm : g ∈ keysOf c
    · rw [if_pos hm]
      exact gives_ok h ht fun x hx => hg x (by simp [hx])
    · rw [if_neg hm]
      have hg1 := hg g (by simp)
      have := gives_ok (r := r) (gs := gs) (h.add (r := r) ht hg1 hm) (by rw [keys_snoc]; exact List.mem_append.mpr (.inl ht)) fun x hx => hg x (by simp [hx])
      rw [mu_add h ht hg1 hm] at this
      exact this
theorem loose_rg {n : Int} {kw ws : List (List Int)} {r : Int} (h : ∀ w ∈ ws, ∀ x ∈ w, 0 ≤ x ∧ x < n) (hr : 0 ≤ r ∧ r < ws.length) : ∀ g ∈ looseB kw ws r, 0 ≤ g ∧ g < n := fun g hg => h _ (at_mem hr) g (List.mem_filter.mp hg).1
theorem read_ok {n : Nat} {b : Bk} {kw ws : List (List Int)} {t : Int} (hw : ∀ w ∈ ws, ∀ x ∈ w, 0 ≤ x ∧ x < (n : Int)) : ∀ {rs : List Int} {c w c' w'}, SOk n c w → t ∈ keysOf c → (∀ r ∈ rs, 0 ≤ r ∧ r < ws.length) → readB b kw ws t rs (c, w) = .inr (c', w') → SOk n c' w' ∧ mu n c' w' = mu n c w
  | [], _, _, _, _, h, ht, _, e => by
    cases e
    exact ⟨h, rfl⟩
  | r :: rs, c, w, c', w', h, ht, hr, e => by
    unfold readB at e
    by_cases hf : freeB b ws r = true
    · rw [if_pos hf] at e
      cases e
    · rw [if_neg hf] at e
      obtain ⟨a1, a2, a3⟩ := gives_ok (r := r) h ht (loose_rg (kw := kw) hw (hr r (by simp)))
      have := read_ok hw (c := (givesB r t (looseB kw ws r) (c, w)).1) (w := (givesB r t (looseB kw ws r) (c, w)).2) a1 a2 (fun x hx => hr x (by simp [hx])) e
      rw [a3] at this
      exact this
/-! ### in the heap -/
section
variable {K : PySem.W.Frag} {C : Addr}
abbrev kLink : Kd K C Link := k3 kI kI (kO kI)
abbrev kLinks : Kd K C (List Link) := kL kLink
abbrev kStep : Kd K C (List Link ⊕ List Int) := kW "chain" "closed" kLinks (kT kI)
/-- the dict at d holds c -/
def DicAt (K : PySem.W.Frag) (C : Addr) (S : List Addr) (H : Hp) (d : Addr) (c : List (Int × List Link)) : Prop := ∃ kvs, H d = some (.dK kvs) ∧ Paired (fun (kv : Key × V) (p : Int × List Link) => kv.1 = .inl p.1 ∧ (kLinks (K := K) (C := C)).rp S H kv.2 p.2) kvs c
variable {S : List Addr} {H H' : Hp} {d q : Addr} {c : List (Int × List Link)} {w : List Int}
theorem DicAt.same (h : DicAt K C S H d c) (s : Same H H') : DicAt K C S H' d c := let ⟨kvs, e, p⟩ := h; ⟨kvs, s _ _ e, L2.Paired.mapP p fun _ _ z => ⟨z.1, kLinks.same s z.2⟩⟩
theorem DicAt.sx (h : DicAt K C S H d c) (f : Fr C S H) (s : Sx C S H H') (e : H' d = H d) : DicAt K C S H' d c := let ⟨kvs, e1, p⟩ := h; ⟨kvs, by rw [e, e1], L2.Paired.mapP p fun _ _ z => ⟨z.1, kLinks.sx f s z.2⟩⟩
theorem dic_val {R : Key × V → Int × List Link → Prop} (hR : ∀ kv p, R kv p → kv.1 = .inl p.1) {t : Int} : ∀ {kvs : List (Key × V)} {c : List (Int × List Link)}, Paired R kvs c → t ∈ keysOf c → ∃ v kv p, valV kvs (.inl t) = some v ∧ R kv p ∧ kv.2 = v ∧ p.2 = getC c t
  | _, _, .nil, h => nomatch h
  | kv :: kvs, p :: c, .cons r rest, h => by
    by_cases e : p.1 = t
    · refine ⟨kv.2, kv, p, valV_pos (by rw [hR _ _ r, e]), r, rfl, ?_⟩
      unfold getC
      rw [List.find?_cons, show decide (p.1 = t) = true by simp [e]]
      rfl
    · have h' : t ∈ keysOf c := by
        unfold keysOf at *
        rw [List.map_cons] at h
        rcases List.mem_cons.mp h with h | h
        · exact absurd h.symm e
        · exact h
      obtain ⟨v, kv', p', e1, e2, e3, e4⟩ := dic_val hR rest h'
      refine ⟨v, kv', p', ?_, e2, e3, ?_⟩
      · rw [valV_neg (by rw [hR _ _ r]; intro z; cases z; exact e rfl)]
        exact e1
      · rw [e4]
        unfold getC
        rw [List.find?_cons, show decide (p.1 = t) = false by simp [e]]
theorem dic_keys {R : Key × V → Int × List Link → Prop} (hR : ∀ kv p, R kv p → kv.1 = .inl p.1) : ∀ {kvs : List (Key × V)} {c : List (Int × List Link)}, Paired R kvs c → kvs.map (·.1) = (keysOf c).map Sum.inl
  | _, _, .nil => rfl
  | kv :: kvs, p :: c, .cons r rest => by
    have ih := dic_keys hR rest
    unfold keysOf at *
    rw [List.map_cons, List.map_cons, List.map_cons, ih, hR _ _ r]
theorem dic_not {R : Key × V → Int × List Link → Prop} (hR : ∀ kv p, R kv p → kv.1 = .inl p.1) {t : Int} : ∀ {kvs : List (Key × V)} {c : List (Int × List Link)}, Paired R kvs c → t ∉ keysOf c → valV kvs (.inl t) = none
  | _, _, .nil, _ => rfl
  | kv :: kvs, p :: c, .cons r rest, h => by
    have h1 : ¬ p.1 = t := fun e => h (by unfold keysOf; simp [e])
    have h2 : t ∉ keysOf c := fun m => h (by unfold keysOf at *; simp only [List.map_cons, List.mem_cons]; exact .inr m)
    rw [valV_neg (by rw [hR _ _ r]; intro z; cases z; exact h1 rfl)]
    exact dic_not hR rest h2
theorem DicAt.get (h : DicAt K C S H d c) {t : Int} (ht : t ∈ keysOf c) : ∃ v, DGet H d (.int t) (some v) ∧ (kLinks (K := K) (C := C)).rp S H v (getC c t) := by
  obtain ⟨kvs, e, p⟩ := h
  obtain ⟨v, kv, pp, e1, e2, e3, e4⟩ := dic_val (fun _ _ z => z.1) p ht
  refine ⟨v, ?_, by rw [← e3, ← e4]; exact e2.2⟩
  rw [← e1]
  exact DGet.k (k := .inl t) e
theorem DicAt.has (h : DicAt K C S H d c) (t : Int) : ∃ o, DGet H d (.int t) o ∧ o.isSome = decide (t ∈ keysOf c) := by
  obtain ⟨kvs, e, p⟩ := h
  refine ⟨_, DGet.k (k := .inl t) e, ?_⟩
  by_cases ht : t ∈ keysOf c
  · obtain ⟨v, _, _, e1, _⟩ := dic_val (fun _ _ z => z.1) p ht
    rw [e1]
    simp [ht]
  · rw [dic_not (fun _ _ z => z.1) p ht]
    simp [ht]
theorem DicAt.put (h : DicAt K C S H d c) (f : Fr C S H) (hd : d ∈ S) {g : Int} {v : V} {l : List Link} (hn : g ∉ keysOf c) (hv : (kLinks (K := K) (C := C)).rp S H v l) (hl : c.length < 1000000) : ∃ o, DPut H d (.int g) v (upd H d (.dK o)) ∧ DicAt K C S (upd H d (.dK o)) d (c ++ [(g, l)]) := by
  obtain ⟨kvs, e, p⟩ := h
  have e2 := putK_new (k := Sum.inl g) v (dic_not (fun _ _ z => z.1) p hn)
  have sx : Sx C S H (upd H d (.dK (putK kvs (.inl g) v))) := sx_upd f hd trivial
  refine ⟨putK kvs (.inl g) v, DPut.k (k := .inl g) e (szl (by rw [pLen p]; omega)), _, upd_same, ?_⟩
  rw [e2] at *
  exact Paired.app (L2.Paired.mapP p fun _ _ z => ⟨z.1, kLinks.sx f sx z.2⟩) (.cons ⟨rfl, kLinks.sx f sx hv⟩ .nil)
/-- d[t], t a slot's int -/
theorem ev_dic {σ : L2.St} {i j : Nat} {t : Int} (h : DicAt K C S H d c) (ht : t ∈ keysOf c) (e1 : σ[i]? = some (some (.ref d))) (e2 : σ[j]? = some (some (.int t))) : Ev (kLinks (K := K) (C := C)) S H (tDGet (tVar i) (tVar j)) σ (getC c t) := fun H1 s Q q => by
  obtain ⟨v, g, r⟩ := (h.same s).get ht
  exact ⟨_, e1, _, e2, d, v, rfl, g, q v H1 (Same.refl _) r⟩
end
end Ew
namespace Ew
open PySem PySem.Spec PyProof.Rows L2
abbrev sStep : Stmt := (top 26)
/-- rows of the book: as many as readers, of its works -/
structure RowsIn (b : Bk) (ws : List (List Int)) : Prop where
  len : ws.length = b.rs.length
  rg : ∀ w ∈ ws, ∀ x ∈ w, 0 ≤ x ∧ x < (b.ds.length : Int)
def sp_step (K : PySem.W.Frag) (C : Addr) : Sp := fun vs H Q _ => ∃ S a, Fr C S H ∧ (aC kBk (aC kWs (aC kWs (aC (kT kI) (aC kI aN)))) : Ka K C (Bk × List (List Int) × List (List Int) × List Int × Int × Unit)).rps S H vs a ∧ (RowsIn a.1 a.2.2.1 ∧ a.2.1.length = a.2.2.1.length ∧ 0 ≤ a.2.2.2.2.1 ∧ a.2.2.2.2.1 < a.1.ds.length) ∧
  ∀ v H', Same H H' → (kStep (K := K) (C := C)).rp S H' v (stepB a.1 a.2.1 a.2.2.1 a.2.2.2.1 a.2.2.2.2.1) → (∀ ch, stepB a.1 a.2.1 a.2.2.1 a.2.2.2.1 a.2.2.2.2.1 = .inl ch → ∃ t p, v = .ref t ∧ H' t = some (.tup [.str "chain", .ref p]) ∧ H p = none ∧ (kLinks (K := K) (C := C)).rp S H' (.ref p) ch) → Q v H'
section
variable {P : Program} {w : World} {K : PySem.W.Frag} {mg : Str → Option Value} {base : Heap} {C : Addr}
theorem scStep : FnScope ["book", "kept", "rows", "absent", "work", "chains", "waiting", "takes", "reader", "gives"] ["book", "kept", "rows", "absent", "work"] (defScope sStep) := ⟨rfl, rfl, rfl, by decide +kernel, rfl, by decide +kernel, by decide +kernel⟩
theorem c_step (D : DefAt K mg "step" sStep ["book", "kept", "rows", "absent", "work"]) (B : Bi mg) (T : BkC P w K mg base C) (c_takers : C8.Cal P w K mg base 3 "takers" (sp_takers K C) []) (c_is_free : C8.Cal P w K mg base 2 "is_free" (sp_is_free K C) []) (c_loose_works : C8.Cal P w K mg base 1 "loose_works" (sp_loose_works K C) []) :
    C8.Cal P w K mg base 4 "step" (sp_step K C) [] := by
  refine cal_of D scStep (fun vs H Q E h => ?_) fun f cdv A outer s H vs Q E hr h => ?_
  · obtain ⟨S, a, _, h, _⟩ := h
    rw [Ka.len _ h]
    rfl
  obtain ⟨S, ⟨b, kw, ws, as, z, _⟩, fr, h, ⟨rin, hkl, z0, z1⟩, q⟩ := h
  obtain ⟨wb, _, rfl, hb, wk, _, rfl, hk, wr, _, rfl, hw, wa, _, rfl, ha, wz, _, rfl, hz, e⟩ := h
  cases (show _ = [] from e)
  have hb : (kBk : Kd K C _).rp S H wb b := hb
  have hk : (kWs : Kd K C _).rp S H wk kw := hk
  have hw : (kWs : Kd K C _).rp S H wr ws := hw
  have ha : (kT kI : Kd K C _).rp S H wa as := ha
  have hz : (kI : Kd K C _).rp S H wz z := hz
  cases (show wz = .int z from hz)
  have rin : RowsIn b ws := rin
  have hkl : kw.length = ws.length := hkl
  have z0 : 0 ≤ z := z0
  have z1 : z < b.ds.length := z1
  have q : ∀ v H', Same H H' → (kStep (K := K) (C := C)).rp S H' v (stepB b kw ws as z) → (∀ ch, stepB b kw ws as z = .inl ch → ∃ t p, v = .ref t ∧ H' t = some (.tup [.str "chain", .ref p]) ∧ H p = none ∧ (kLinks (K := K) (C := C)).rp S H' (.ref p) ch) → Q v H' := q
  have ok := kBk.ok hb
  have n6 := ok.n6
  have r6 := ok.r6
  have hu := hu_of hr
  refine ⟨_, pss_cons (ps_set (i := 5) scStep.nd rfl (.inl rfl) (pe_disp (pps_cons (pv 4) (pe_lst pa_nil) pps_nil) (by rfl) (by rfl) (fun z => by cases z) (by decide)))
    (pss_cons (ps_set (i := 6) scStep.nd rfl (.inl rfl) (pe_lst (pa_cons (pv 4) pa_nil)))
    (pss_cons (ps_while PassesOwn.never (pt_cmpR op_gt (pe_callB call_len_seq (by rfl) B.len PySem.boot_len (pa_cons (pv 6) pa_nil)) pe_int (nomark _))
      (pss_cons (ps_set (i := 7) scStep.nd rfl (.inl rfl) (pe_bm PySem.F.plainAttrs_list PySem.F.slot_list_pop PySem.F.type_list_pop mt_popAt (pv 6) (pa_cons pe_int pa_nil)))
      (pss_one (ps_for PassesOwn.never rfl (pi_list (C8.pe_c c_takers hr (by decide) (by rfl) (pa_cons (pv 0) (pa_cons (pv 2) (pa_cons (pv 3) (pa_cons (pv 7) pa_nil)))))) (pg_name (i := 8) scStep.nd rfl (.inl rfl))
        (pss_cons (ps_if (pt_val (C8.pe_c c_is_free hr (by decide) (by rfl) (pa_cons (pv 0) (pa_cons (pv 2) (pa_cons (pv 8) pa_nil)))))
          (pss_one (ps_ret (pe_tup (pa_cons pe_str (pa_cons (pe_op op_cat (pe_dget hu (pv 5) (pv 7) (fun _ _ => rfl)) (pe_lst (pa_cons (pe_tup (pa_cons (pv 8) (pa_cons (pv 7) (pa_cons pe_non pa_nil)))) pa_nil))) pa_nil))))) pss_nil)
        (pss_one (ps_for PassesOwn.never rfl (pi_list (C8.pe_c c_loose_works hr (by decide) (by rfl) (pa_cons (pv 1) (pa_cons (pv 2) (pa_cons (pv 8) pa_nil))))) (pg_name (i := 9) scStep.nd rfl (.inl rfl))
          (pss_one (ps_if (pt_cmp (pc_dnotin hu (pv 9) (pv 5)))
            (pss_cons (ps_dput hu (pv 5) (pv 9) (pe_op op_cat (pe_dget hu (pv 5) (pv 7) (fun _ _ => rfl)) (pe_lst (pa_cons (pe_tup (pa_cons (pv 8) (pa_cons (pv 7) (pa_cons (pv 9) pa_nil)))) pa_nil))) rfl)
            (pss_one (ps_expr (pe_bm PySem.F.plainAttrs_list PySem.F.slot_list_append PySem.F.type_list_append mt_append (pv 6) (pa_cons (pv 9) pa_nil))))) pss_nil)))))))))
    (pss_one (ps_ret (pe_tup (pa_cons pe_str (pa_cons (pe_callTy call_tuple_of (by rfl) B.tuple (by decide +kernel) (pa_cons (pe_callB (call_sortedDI rfl) (by rfl) B.sorted (by decide +kernel) (pa_cons (pv 5) pa_nil)) pa_nil)) pa_nil))))))), ?_⟩
  dsimp only [cxOf, Cx.nox, Cx.wish]
  -- chains, waiting
  refine fun d nd => ⟨_, rfl, Nat.zero_le _, fun l0 nl0 => ⟨?_, ?_⟩⟩
  · have : d ≠ l0 := fun e => by rw [← e, upd_same] at nl0; cases nl0
    rw [upd_ne this]
    exact upd_same
  refine ⟨[(.inl z, .ref l0)], rfl, by simp, ⟨_, rfl, szL (by simp), fun p np => ?_⟩⟩
  -- what stands
  have f1 : Fr C (d :: S) (upd H d (.dK [])) := fr.cons nd trivial
  have hl0 : H l0 = none := (sameU nd).free nl0
  have dl0 : l0 ≠ d := fun e => by rw [e, upd_same] at nl0; cases nl0
  have f2 := f1.same (sameU (o := .lst []) nl0)
  have r0 : (kLinks (K := K) (C := C)).rp (d :: S) (upd (upd H d (.dK [])) l0 (.lst [])) (.ref l0) [] := ⟨l0, [], rfl, f1.out nl0, upd_same, .nil, Nat.zero_le _⟩
  have sx3 : Sx C (d :: S) (upd (upd H d (.dK [])) l0 (.lst [])) (upd (upd (upd H d (.dK [])) l0 (.lst [])) d (.dK (mergeK [] [(.inl z, .ref l0)]))) := sx_upd f2 (by simp) trivial
  have r3 := kLinks.sx f2 sx3 r0
  have f3 := sx3.fr
  have s3 : Same H (upd (upd (upd H d (.dK [])) l0 (.lst [])) d (.dK (mergeK [] [(.inl z, .ref l0)]))) := sameOwn ((sameU nd).trans (sameU nl0)) nd (.dK (xs := []) (by rw [upd_ne dl0.symm, upd_same]))
  have hd3 : (upd (upd (upd H d (.dK [])) l0 (.lst [])) d (.dK (mergeK [] [(.inl z, .ref l0)]))) d = some (.dK [(.inl z, .ref l0)]) := upd_same
  generalize (upd (upd (upd H d (.dK [])) l0 (.lst [])) d (.dK (mergeK [] [(.inl z, .ref l0)]))) = H3 at *
  have np0 : H p = none := s3.free np
  have dp : d ≠ p := ne_of_none hd3 np
  have f4 : Fr C (p :: d :: S) (upd H3 p (.lst [.int z])) := f3.cons np trivial
  have s4 : Same H (upd H3 p (.lst [.int z])) := s3.trans (sameU np)
  have dic0 : DicAt K C (p :: d :: S) (upd H3 p (.lst [.int z])) d [(z, [])] := ⟨_, sameU np _ _ hd3, .cons ⟨rfl, kLinks.same (sameU np) (kLinks.new np r3)⟩ .nil⟩
  have hq0 : (upd H3 p (.lst [.int z])) p = some (.lst ([z].map V.int)) := upd_same
  generalize (upd H3 p (.lst [.int z])) = H4 at *
  have lf : ∀ Hc, Same H Hc → Lf K C S H (p :: d :: S) Hc := fun Hc s => ⟨fun k v x h => k.same s (k.new np0 (k.new nd h)), s.tab⟩
  have sok0 : SOk b.ds.length [(z, [])] [z] := ⟨by simp [keysOf], fun g hg => by simp [keysOf] at hg; omega, fun g hg => by simpa [keysOf] using hg, fun q hq => by simp at hq; rw [hq]; simp⟩
  clear sx3 r0 f1 f2 f3 r3 hd3
  refine ⟨fun m σ Hc => ∃ y7 y8 y9 c w, σ = [some wb, some wk, some wr, some wa, some (.int z), some (.ref d), some (.ref p), y7, y8, y9] ∧ Same H Hc ∧ Fr C (p :: d :: S) Hc ∧ DicAt K C (p :: d :: S) Hc d c ∧ Hc p = some (.lst (w.map V.int)) ∧ SOk b.ds.length c w ∧ mu b.ds.length c w < m ∧ m ≤ 20 ∧ stepB b kw ws as z = stepN b kw ws as m c w,
    ⟨20, none, none, none, _, _, rfl, s4, f4, dic0, hq0, sok0, by unfold mu; simp; omega, Nat.le_refl _, rfl⟩, ?_⟩
  rintro m σ Hc ⟨y7, y8, y9, c, w, rfl, sc, fc, dic, hq, sok, hmu, hm20, hst⟩
  refine ⟨_, rfl, p, _, rfl, .inl (.inl (.inl hq)), _, _, rfl, rfl, _, rfl, ?_⟩
  cases w with
  | nil =>
    refine iteFd (by simp) ?_
    have hst2 : stepB b kw ws as z = .inr (srt (keysOf c)) := by
      rw [hst]
      cases m <;> rfl
    obtain ⟨kvs, hd, hp⟩ := id dic
    have hkeys := dic_keys (fun _ _ z => z.1) hp
    have hle := sok.le
    have hk64 : (keysOf c).length < 64 := by unfold keysOf; rw [List.length_map]; omega
    refine ⟨_, rfl, d, kvs, keysOf c, rfl, .inl hd, hkeys, hk64, fun ys p5 hp5 hu5 np5 => ?_⟩
    rw [srt_of hp5 hu5]
    refine ⟨p5, _, rfl, .inl ⟨.inl (.inl upd_same), fun t1 nt1 => ⟨szL (by simp), fun t2 nt2 => ?_⟩⟩⟩
    have s5 : Same H (upd (upd (upd Hc p5 (.lst ((srt (keysOf c)).map V.int))) t1 (.tup ((srt (keysOf c)).map V.int))) t2 (.tup [.str "closed", .ref t1])) := sc.trans ((sameU np5).trans ((sameU nt1).trans (sameU nt2)))
    refine q _ _ s5 ?_ fun ch e => ?_
    · rw [hst2]
      exact ⟨t2, .ref t1, rfl, .inl (.inl upd_same), t1, _, rfl, .inl (.inl (sameU nt2 _ _ upd_same)), paired_ints _, by rw [srt_len]; omega⟩
    · rw [hst2] at e
      cases e
  | cons t w =>
    refine iteTd (by simp) ?_
    obtain ⟨m, rfl⟩ : ∃ m', m = m' + 1 := ⟨m - 1, by omega⟩
    refine ⟨_, fun σ' H' h => ⟨m, Nat.lt_succ_self m, h⟩, ?_⟩
    have tk : t ∈ keysOf c := sok.sub t (by simp)
    refine ⟨_, rfl, .inl ⟨rfl, _, .inl (.inl hq)⟩, p, _, 0, 0, .int t, rfl, rfl, hq, by decide, by decide, by unfold seqIndex?; simp, rfl, ?_⟩
    have sxp : Sx C (p :: d :: S) Hc (upd Hc p (.lst (((t :: w).map V.int).eraseIdx 0))) := sx_upd fc (by simp) trivial
    have sc5 : Same H (upd Hc p (.lst (((t :: w).map V.int).eraseIdx 0))) := sameOwn sc np0
    have hq5 : (upd Hc p (.lst (((t :: w).map V.int).eraseIdx 0))) p = some (.lst (w.map V.int)) := upd_same
    have dic5 : DicAt K C (p :: d :: S) (upd Hc p (.lst (((t :: w).map V.int).eraseIdx 0))) d c := dic.sx fc sxp (by rw [upd_ne dp])
    have f5 := sxp.fr
    generalize (upd Hc p (.lst (((t :: w).map V.int).eraseIdx 0))) = H5 at *
    have sok5 : SOk b.ds.length c w := ⟨sok.nd, sok.rg, fun g hg => sok.sub g (by simp [hg]), sok.len⟩
    have hmu5 : mu b.ds.length c w < m := by unfold mu at *; rw [List.length_cons] at hmu; omega
    have hst5 : stepB b kw ws as z = match readB b kw ws t (takersB b ws as t) (c, w) with
        | .inl ch => .inl ch
        | .inr (c', w') => stepN b kw ws as m c' w' := hst
    clear hst hmu sok sxp dic hq fc
    have l5 := lf H5 sc5
    refine s_for (kx := kI) (S := p :: d :: S) (evi_list (EvN.ev (evn_call (eva_cons (ev_var rfl hb l5) (eva_cons (ev_var rfl hw l5) (eva_cons (ev_var rfl ha l5) (eva_cons (ev_var (k := kI) (x := t) rfl rfl Lf.refl) eva_nil)))) f5 rin.len))) fun H6 s6 => ?_
    dsimp only
    have tmem : ∀ r ∈ takersB b ws as t, r ∈ presB b as := fun r hr => (List.mem_filter.mp hr).1
    have tlen : (takersB b ws as t).length ≤ 6 := Nat.le_trans (List.length_filter_le _ _) (Nat.le_trans (presB_len b as) r6)
    generalize takersB b ws as t = tks at *
    refine ⟨fun i σ' H' => ∃ y8 y9 c' w', σ' = [some wb, some wk, some wr, some wa, some (.int z), some (.ref d), some (.ref p), some (.int t), y8, y9] ∧ Same H H' ∧ Fr C (p :: d :: S) H' ∧ DicAt K C (p :: d :: S) H' d c' ∧ H' p = some (.lst (w'.map V.int)) ∧ Lf K C (p :: d :: S) H6 (p :: d :: S) H' ∧ SOk b.ds.length c' w' ∧ mu b.ds.length c' w' = mu b.ds.length c w ∧ t ∈ keysOf c' ∧
      readB b kw ws t tks (c, w) = readB b kw ws t (tks.drop i) (c', w'),
      ⟨y8, y9, c, w, rfl, sc5.trans s6, f5.same s6, dic5.same s6, s6 _ _ hq5, Lf.refl, sok5, rfl, tk, rfl⟩, fun i σ' H' h => let ⟨_, _, _, _, _, _, _, _, _, l, _⟩ := h; l, ?_, ?_⟩
    · rintro i r σ' H' v H'' hx ⟨y8, y9, c', w', rfl, sc', f', dic', hq', l6, sok', hmu', tk', hrd⟩ s7 hv
      cases (show v = .int r from hv)
      have sc7 := sc'.trans s7
      have f7 := f'.same s7
      have dic7 := dic'.same s7
      have hq7 := s7 _ _ hq'
      have l67 : Lf K C (p :: d :: S) H6 (p :: d :: S) H'' := l6.trans (.same s7)
      clear dic' hq' f' sc' l6
      have l7 := lf H'' sc7
      have ir : IsRd b ws r := IsRd.of rin.len (tmem r (List.mem_of_getElem? hx))
      have hdrop : tks.drop i = r :: tks.drop (i + 1) := by
        have hi : i < tks.length := by
          rcases Nat.lt_or_ge i tks.length with h | h
          · exact h
          · rw [List.getElem?_eq_none h] at hx; cases hx
        rw [List.drop_eq_getElem_cons hi]
        rw [List.getElem?_eq_getElem hi] at hx
        cases hx
        rfl
      rw [hdrop] at hrd
      have gl := getC_len sok' tk'
      have cl := sok'.le
      refine q_if (evt_b (ev_call (eva_cons (ev_var rfl hb l7) (eva_cons (ev_var rfl hw l7) (eva_cons (ev_var (k := kI) (x := r) rfl rfl Lf.refl) eva_nil))) f7 ir)) (fun H8 hfree s8 => ?_) fun H8 hfree s8 => ?_
      · -- a chain
        have hfree : freeB b ws r = true := hfree
        have hres : stepB b kw ws as z = .inl (getC c' t ++ [(r, t, none)]) := by
          rw [hst5, hrd]
          unfold readB
          rw [if_pos hfree]
        have f8 := f7.same s8
        refine EvN.use (S := p :: d :: S) (evn_catL (ev_dic (dic7.same s8) tk' rfl rfl) (EvN.ev (evn_l1 (ev_t3 (ev_var (k := kI) (x := r) rfl rfl Lf.refl) (ev_var (k := kI) (x := t) rfl rfl Lf.refl) (ev_none (k := kI))) f8)) f8 (by simp; omega)) fun p1 H9 n1 s9 r1 => ⟨szL (by simp), fun t1 nt1 => ?_⟩
        have sT := sc7.trans (s8.trans (s9.trans (sameU (o := .tup [.str "chain", .ref p1]) nt1)))
        have r1' := kLinks.less (T := S) (fun a m => by simp [m]) (kLinks.same (sameU (o := .tup [.str "chain", .ref p1]) nt1) r1)
        refine q _ _ sT ?_ fun ch e => ?_
        · rw [hres]
          exact ⟨t1, .ref p1, rfl, .inl (.inl upd_same), r1'⟩
        · rw [hres] at e
          cases e
          exact ⟨t1, p1, rfl, upd_same, (sc7.trans s8).free n1, r1'⟩
      · -- its loose works
        have hfree : ¬ freeB b ws r = true := by
          have h : freeB b ws r = false := hfree
          rw [h]
          exact Bool.false_ne_true
        have sc8 := sc7.trans s8
        have f8 := f7.same s8
        have dic8 := dic7.same s8
        have hq8 := s8 _ _ hq7
        have l68 : Lf K C (p :: d :: S) H6 (p :: d :: S) H8 := l67.trans (.same s8)
        have l8 := lf H8 sc8
        clear dic7 hq7 f7 sc7 l67 l7 s8 s7
        have hgs : ∀ g ∈ looseB kw ws r, 0 ≤ g ∧ g < (b.ds.length : Int) := loose_rg rin.rg ir.1
        have hnext : readB b kw ws t (r :: tks.drop (i + 1)) (c', w') = readB b kw ws t (tks.drop (i + 1)) (givesB r t (looseB kw ws r) (c', w')) := by
          rw [readB, if_neg hfree]
        rw [hnext] at hrd
        refine s_for (kx := kI) (S := p :: d :: S) (evi_list (EvN.ev (evn_call (eva_cons (ev_var rfl hk l8) (eva_cons (ev_var rfl hw l8) (eva_cons (ev_var (k := kI) (x := r) rfl rfl Lf.refl) eva_nil))) f8 ⟨ir.1, hkl⟩))) fun H9 s9 => ?_
        dsimp only
        generalize looseB kw ws r = gs at *
        refine ⟨fun j σ' H' => ∃ y9 c2 w2, σ' = [some wb, some wk, some wr, some wa, some (.int z), some (.ref d), some (.ref p), some (.int t), some (.int r), y9] ∧ Same H H' ∧ Fr C (p :: d :: S) H' ∧ DicAt K C (p :: d :: S) H' d c2 ∧ H' p = some (.lst (w2.map V.int)) ∧ Lf K C (p :: d :: S) H6 (p :: d :: S) H' ∧ Lf K C (p :: d :: S) H9 (p :: d :: S) H' ∧ SOk b.ds.length c2 w2 ∧ mu b.ds.length c2 w2 = mu b.ds.length c w ∧ t ∈ keysOf c2 ∧
          givesB r t gs (c', w') = givesB r t (gs.drop j) (c2, w2),
          ⟨y9, c', w', rfl, sc8.trans s9, f8.same s9, dic8.same s9, s9 _ _ hq8, l68.trans (.same s9), Lf.refl, sok', hmu', tk', rfl⟩, fun i σ' H' h => let ⟨_, _, _, _, _, _, _, _, _, l, _⟩ := h; l, ?_, ?_⟩
        · rintro j g σ' H' v H'' hx ⟨y9, c2, w2, rfl, sc2, f2, dic2, hq2, l62, l92, sok2, hmu2, tk2, hgv⟩ s10 hv
          cases (show v = .int g from hv)
          have sc3 := sc2.trans s10
          have f3 := f2.same s10
          have dic3 := dic2.same s10
          have hq3 := s10 _ _ hq2
          have l63 := l62.trans (Lf.same s10)
          have l93 := l92.trans (Lf.same s10)
          clear dic2 hq2 f2 sc2 l62 l92
          have hdrop : gs.drop j = g :: gs.drop (j + 1) := by
            have hi : j < gs.length := by
              rcases Nat.lt_or_ge j gs.length with h | h
              · exact h
              · rw [List.getElem?_eq_none h] at hx; cases hx
            rw [List.drop_eq_getElem_cons hi]
            rw [List.getElem?_eq_getElem hi] at hx
            cases hx
            rfl
          rw [hdrop, givesB] at hgv
          obtain ⟨o, hget, ho⟩ := dic3.has g
          refine ⟨_, rfl, _, rfl, d, o, rfl, hget, _, rfl, ?_⟩
          rw [ho]
          by_cases hm : g ∈ keysOf c2
          · rw [if_pos hm] at hgv
            refine iteFd (by simp [hm]) ?_
            exact ⟨_, c2, w2, rfl, sc3, f3, dic3, hq3, l63, l93, sok2, hmu2, tk2, hgv⟩
          · rw [if_neg hm] at hgv
            refine iteTd (by simp [hm]) ?_
            have hg1 := hgs g (List.mem_of_getElem? hx)
            have gl2 := getC_len sok2 tk2
            have cl2 := sok2.le
            have sok3 := sok2.add (r := r) tk2 hg1 hm
            have wl : w2.length ≤ c2.length + b.ds.length + mu b.ds.length c w := by
              rw [← hmu2]
              unfold mu
              omega
            refine EvN.use (S := p :: d :: S) (evn_catL (ev_dic dic3 tk2 rfl rfl) (EvN.ev (evn_l1 (ev_t3 (ev_var (k := kI) (x := r) rfl rfl Lf.refl) (ev_var (k := kI) (x := t) rfl rfl Lf.refl) (ev_some (ev_var (k := kI) (x := g) rfl rfl Lf.refl))) f3)) f3 (by simp; omega)) fun p1 H4 n1 s4 r1 => ?_
            obtain ⟨o2, hput, dic4⟩ := (dic3.same s4).put (f3.same s4) (by simp) hm r1 (by omega)
            refine ⟨_, rfl, _, rfl, d, _, rfl, hput, ?_⟩
            have f4 := f3.same s4
            have sx4 : Sx C (p :: d :: S) H4 (upd H4 d (.dK o2)) := sx_upd f4 (by simp) trivial
            have hq4 : (upd H4 d (.dK o2)) p = some (.lst (w2.map V.int)) := by rw [upd_ne (Ne.symm dp)]; exact s4 _ _ hq3
            have sc4 : Same H (upd H4 d (.dK o2)) := sameOwn (sc3.trans s4) nd (.dK (dic3.same s4).choose_spec.1)
            have ll4 : Lf K C (p :: d :: S) H'' (p :: d :: S) (upd H4 d (.dK o2)) := (Lf.same s4).trans (.sx f4 sx4)
            have f44 := sx4.fr
            generalize (upd H4 d (.dK o2)) = H44 at *
            have sx5 : Sx C (p :: d :: S) H44 (upd H44 p (.lst (w2.map V.int ++ [.int g]))) := sx_upd f44 (by simp) trivial
            refine ⟨_, rfl, .inl ⟨rfl, _, .inl (.inl hq4)⟩, _, rfl, p, _, .int g, rfl, rfl, hq4, ?_, ?_⟩
            · rw [List.length_map]
              have : mu b.ds.length c w ≤ 1000 := by
                omega
              exact szl (by omega)
            · refine ⟨_, _, _, rfl, sameOwn sc4 np0, sx5.fr, dic4.sx f44 sx5 (by rw [upd_ne dp]), ?_, l63.trans (ll4.trans (.sx f44 sx5)), l93.trans (ll4.trans (.sx f44 sx5)), sok3, by rw [mu_add sok2 tk2 hg1 hm]; exact hmu2, by rw [keys_snoc]; exact List.mem_append.mpr (.inl tk2), hgv⟩
              rw [upd_same, List.map_append]
              rfl
        · rintro σ' H' ⟨y9, c2, w2, rfl, sc2, f2, dic2, hq2, l62, l92, sok2, hmu2, tk2, hgv⟩
          rw [List.drop_length] at hgv
          refine ⟨_, _, c2, w2, rfl, sc2, f2, dic2, hq2, l62, sok2, hmu2, tk2, ?_⟩
          rw [hrd, hgv]
          rfl
    · rintro σ' H' ⟨y8, y9, c', w', rfl, sc', f', dic', hq', l6, sok', hmu', tk', hrd⟩
      rw [List.drop_length] at hrd
      refine ⟨_, y8, y9, c', w', rfl, sc', f', dic', hq', sok', by omega, by omega, ?_⟩
      rw [hst5, hrd]
      rfl
end
end Ew
namespace Ew
open PySem PySem.Spec PyProof.Rows L2
/-! ### data that may hold an empty dict; lists at places that are as asked -/
mutual
inductive Dq (K : PySem.W.Frag) (P : Addr → Prop) (H : Hp) : V → PyData → Prop
  | non : Dq K P H .non .none
  | bl (b : Bool) : Dq K P H (.bl b) (.bool b)
  | int (i : Int) : Dq K P H (.int i) (.int i)
  | str (x : Str) : Dq K P H (.str x) (.str x)
  | lst {a : Addr} {xs : List V} {ds : List PyData} : P a → H a = some (.lst xs) → DqA K P H xs ds → Dq K P H (.ref a) (.list ds)
  | tup {a : Addr} {xs : List V} {ds : List PyData} : SqT K H a xs → DqA K P H xs ds → Dq K P H (.ref a) (.tuple ds)
  | dic {a : Addr} : H a = some (.dK []) → Dq K P H (.ref a) (.dict [])
inductive DqA (K : PySem.W.Frag) (P : Addr → Prop) (H : Hp) : List V → List PyData → Prop
  | nil : DqA K P H [] []
  | cons {v : V} {d : PyData} {vs : List V} {ds : List PyData} : Dq K P H v d → DqA K P H vs ds → DqA K P H (v :: vs) (d :: ds)
end
def tyD : PyData → String
  | .none => "NoneType"
  | .bool _ => "bool"
  | .int _ => "int"
  | .str _ => "str"
  | .list _ => "list"
  | .tuple _ => "tuple"
  | .dict _ => "dict"
theorem dq_bt {K : PySem.W.Frag} {P : Addr → Prop} {H : Hp} {v : V} {d : PyData} (h : Dq K P H v d) : TyX K H v (.type (tyD d)) := by
  cases h with
  | non => exact .base .non
  | bl b => exact .base (.bl b)
  | int i => exact .base (.int i)
  | str x => exact .base (.str x)
  | lst _ e _ => exact .base (.lst e)
  | tup q _ =>
    rcases q with (h | ⟨o, h⟩) | ⟨o, its, n, h, c, _⟩
    · exact .base (.tup h)
    · exact .fTuple h
    · exact .kTuple h c
  | dic e => exact .base (.dK e)
/-- what such data needs of another heap -/
def Over (P : Addr → Prop) (H H' : Hp) : Prop := ∀ (a : Addr) (o : HO), (∀ xs, o = .lst xs → P a) → H a = some o → NT o → H' a = some o
mutual
theorem Dq.over {K : PySem.W.Frag} {P : Addr → Prop} {H H' : Hp} (s : Over P H H') : ∀ {d : PyData} {v : V}, Dq K P H v d → Dq K P H' v d
  | .none, _, h => by cases h; exact .non
  | .bool _, _, h => by cases h; exact .bl _
  | .int _, _, h => by cases h; exact .int _
  | .str _, _, h => by cases h; exact .str _
  | .list ds, _, h => by
    cases h with
    | lst p e a => exact .lst p (s _ _ (fun _ _ => p) e trivial) (DqA.over s a)
  | .tuple ds, _, h => by
    cases h with
    | tup q a =>
      refine .tup ?_ (DqA.over s a)
      rcases q with (h | ⟨o, h⟩) | h
      · exact .inl (.inl (s _ _ (fun xs e => by cases e) h trivial))
      · exact .inl (.inr ⟨o, s _ _ (fun xs e => by cases e) h trivial⟩)
      · exact .inr h
  | .dict kvs, _, h => by
    cases h with
    | dic e => exact .dic (s _ _ (fun xs e => by cases e) e trivial)
theorem DqA.over {K : PySem.W.Frag} {P : Addr → Prop} {H H' : Hp} (s : Over P H H') : ∀ {ds : List PyData} {vs : List V}, DqA K P H vs ds → DqA K P H' vs ds
  | [], _, h => by cases h; exact .nil
  | d :: ds, _, h => by
    cases h with
    | cons a b => exact .cons (Dq.over s a) (DqA.over s b)
end
theorem over_same {P : Addr → Prop} {H H' : Hp} (s : Same H H') : Over P H H' := fun _ _ _ e z => s.go _ _ e z
theorem over_ext {P : Addr → Prop} {f : Addr} {H H' : Hp} (s : Ext1 f H H') (hf : FeedAt H f) (np : ¬ P f) : Over P H H' := fun a o h e z => by
  by_cases n : a = f
  · subst n
    obtain ⟨d, t, z⟩ := hf
    rw [z] at e
    cases e
    exact absurd (h _ rfl) np
  · exact s.1 _ _ n e z
theorem over_upd {P : Addr → Prop} {H : Hp} {D : Addr} {xs : List V} {o : HO} (e : H D = some (.lst xs)) (np : ¬ P D) : Over P H (upd H D o) := fun a u h z _ => by
  by_cases n : a = D
  · subst n
    rw [e] at z
    cases z
    exact absurd (h _ rfl) np
  · rw [upd_ne n]
    exact z
mutual
theorem Dq.imp {K : PySem.W.Frag} {P P' : Addr → Prop} {H : Hp} (s : ∀ a xs, H a = some (.lst xs) → P a → P' a) : ∀ {d : PyData} {v : V}, Dq K P H v d → Dq K P' H v d
  | .none, _, h => by cases h; exact .non
  | .bool _, _, h => by cases h; exact .bl _
  | .int _, _, h => by cases h; exact .int _
  | .str _, _, h => by cases h; exact .str _
  | .list ds, _, h => by
    cases h with
    | lst p e a => exact .lst (s _ _ e p) e (DqA.imp s a)
  | .tuple ds, _, h => by
    cases h with
    | tup q a => exact .tup q (DqA.imp s a)
  | .dict kvs, _, h => by
    cases h with
    | dic e => exact .dic e
theorem DqA.imp {K : PySem.W.Frag} {P P' : Addr → Prop} {H : Hp} (s : ∀ a xs, H a = some (.lst xs) → P a → P' a) : ∀ {ds : List PyData} {vs : List V}, DqA K P H vs ds → DqA K P' H vs ds
  | [], _, h => by cases h; exact .nil
  | d :: ds, _, h => by
    cases h with
    | cons a b => exact .cons (Dq.imp s a) (DqA.imp s b)
end
theorem DqA.len {K : PySem.W.Frag} {P : Addr → Prop} {H : Hp} : ∀ {vs : List V} {ds : List PyData}, DqA K P H vs ds → vs.length = ds.length
  | [], [], _ => rfl
  | _ :: vs, _ :: ds, .cons _ t => by rw [List.length_cons, List.length_cons, DqA.len t]
theorem DqA.at1 {K : PySem.W.Frag} {P : Addr → Prop} {H : Hp} : ∀ {vs : List V} {ds : List PyData} {i : Nat} {v : V}, DqA K P H vs ds → vs[i]? = some v → ∃ d, ds[i]? = some d ∧ Dq K P H v d
  | [], [], i, v, _, e => by simp at e
  | _ :: vs, _ :: ds, 0, v, .cons r _, e => by
    simp at e
    subst e
    exact ⟨_, rfl, r⟩
  | _ :: vs, _ :: ds, i + 1, v, .cons _ t, e => by
    obtain ⟨d, h1, h2⟩ := DqA.at1 (i := i) (v := v) t (by simpa using e)
    exact ⟨d, by simpa using h1, h2⟩
theorem dqA_ints {K : PySem.W.Frag} {P : Addr → Prop} {H : Hp} : ∀ l : List Int, DqA K P H (l.map V.int) (l.map PyData.int)
  | [] => .nil
  | _ :: l => .cons (.int _) (dqA_ints l)
theorem dqA_map {K : PySem.W.Frag} {P : Addr → Prop} {H : Hp} {α : Type} {R : V → α → Prop} {g : α → PyData} (h : ∀ v a, R v a → Dq K P H v (g a)) : ∀ {vs : List V} {as : List α}, Paired R vs as → DqA K P H vs (as.map g)
  | _, _, .nil => .nil
  | _, _, .cons r t => .cons (h _ _ r) (dqA_map h t)
theorem dq_dT {K : PySem.W.Frag} {P : Addr → Prop} {H : Hp} {v : V} {l : List Int} (h : RowT K H v l) : Dq K P H v (dT l) := let ⟨_, e, q⟩ := h; e ▸ .tup q (dqA_ints l)
theorem dqA_app {K : PySem.W.Frag} {P : Addr → Prop} {H : Hp} : ∀ {vs ws : List V} {ds es : List PyData}, DqA K P H vs ds → DqA K P H ws es → DqA K P H (vs ++ ws) (ds ++ es)
  | [], _, [], _, _, h => h
  | _ :: _, _, _ :: _, _, .cons a t, h => .cons a (dqA_app t h)
theorem dqA_set {K : PySem.W.Frag} {P : Addr → Prop} {H : Hp} {v : V} {d : PyData} (hv : Dq K P H v d) : ∀ {vs : List V} {ds : List PyData} (n : Nat), DqA K P H vs ds → DqA K P H (vs.set n v) (ds.set n d)
  | [], [], _, h => h
  | _ :: _, _ :: _, 0, .cons _ t => .cons hv t
  | _ :: _, _ :: _, n + 1, .cons a t => .cons a (dqA_set hv n t)
theorem dqA_dWs {K : PySem.W.Frag} {P : Addr → Prop} {H : Hp} {vs : List V} {ws : List (List Int)} (h : Paired (RowT K H) vs ws) : DqA K P H vs (ws.map dT) := dqA_map (g := dT) (fun _ _ z => dq_dT z) h
theorem dq_dWs {K : PySem.W.Frag} {P : Addr → Prop} {H : Hp} {a : Addr} {vs : List V} {ws : List (List Int)} (p : P a) (e : H a = some (.lst vs)) (h : Paired (RowT K H) vs ws) : Dq K P H (.ref a) (dWs ws) := .lst p e (dqA_dWs h)
/-! ### such data, read -/
section
variable {X : Cx} {pins : List (Addr × Obj)} {σ : L2.St} {H : Hp} {s : Shared} {P : Addr → Prop}
mutual
theorem dq_reads (I : L2.Inv X pins σ H s) (low : H sysModules = none) : ∀ (d : PyData) (v : V) (u : Value), Dq X.K P H v d → L2.RelV v u → ∃ as, Reads s.heap u d as ∧ sysModules ∉ as
  | .none, _, u, h, r => by
    cases h
    cases (show u = Value.none from r)
    exact ⟨_, .none, by simp⟩
  | .bool b, _, u, h, r => by
    cases h
    cases (show u = Value.bool b from r)
    exact ⟨_, .bool b, by simp⟩
  | .int i, _, u, h, r => by
    cases h
    obtain ⟨t, q⟩ := (show ∃ t, u = Value.int i t from r)
    cases q
    exact ⟨_, .int i t, by simp⟩
  | .str x, _, u, h, r => by
    cases h
    obtain ⟨t, q⟩ := (show ∃ t, u = Value.str x t from r)
    cases q
    exact ⟨_, .str x t, by simp⟩
  | .list ds, _, u, h, r => by
    cases h with
    | @lst a xs _ p e ha =>
      cases (show u = Value.ref a from r)
      obtain ⟨_, vs, n, rv, h1⟩ := (show ObjOk X.prog X.w H s.heap a (.lst xs) from I.hok a _ e)
      obtain ⟨as, ra, na⟩ := dqA_reads I low ds xs vs ha rv
      refine ⟨_, .list h1 rfl rfl ra, ?_⟩
      intro z
      rcases List.mem_cons.mp z with z | z
      · rw [z, e] at low
        cases low
      · exact na z
  | .tuple ds, _, u, h, r => by
    cases h with
    | @tup a xs _ q ha =>
      cases (show u = Value.ref a from r)
      obtain ⟨its, rv, ⟨o, h1, h2, n, h3⟩, _⟩ := I.tuple q
      obtain ⟨as, ra, na⟩ := dqA_reads I low ds xs its ha rv
      exact ⟨_, .tuple h1 h2 h3 (by simpa using ra), na⟩
  | .dict kvs, _, u, h, r => by
    cases h with
    | @dic a e =>
      cases (show u = Value.ref a from r)
      obtain ⟨_, z2, vs, z3, o, es, ep, h1, h2, h3, _, h5, _⟩ := (show ObjOk X.prog X.w H s.heap a (.dK []) from I.hok a _ e)
      cases z3
      have hes : es.toList = [] := by
        generalize es.toList = l at h5
        cases h5
        rfl
      refine ⟨_, .dict (as := []) (bs := []) h1 h2.1 h3 (by rw [hes]; exact .nil) (by rw [hes]; exact .nil), ?_⟩
      intro z
      rw [List.append_nil, List.mem_singleton] at z
      rw [← z] at z2
      simp at z2
theorem dqA_reads (I : L2.Inv X pins σ H s) (low : H sysModules = none) : ∀ (ds : List PyData) (vs : List V) (us : List Value), DqA X.K P H vs ds → Vals vs us → ∃ as, ReadsAll s.heap us ds as ∧ sysModules ∉ as
  | [], _, us, h, r => by
    cases h
    cases r
    exact ⟨_, .nil, by simp⟩
  | d :: ds, _, us, h, r => by
    cases h with
    | cons a b =>
      cases r with
      | cons r1 r2 =>
        obtain ⟨as, h1, n1⟩ := dq_reads I low d _ _ a r1
        obtain ⟨bs, h2, n2⟩ := dqA_reads I low ds _ _ b r2
        refine ⟨_, .cons h1 h2, ?_⟩
        intro z
        rcases List.mem_append.mp z with z | z
        · exact n1 z
        · exact n2 z
end
end
def rReprQ (K : PySem.W.Frag) : List V → Hp → VK → Prop := fun xs H Q => ∃ (P : Addr → Prop) (v : V) (d : PyData), xs = [v] ∧ Dq K P H v d ∧ d.showable = true ∧ d.depth ≤ 60 ∧ d.shown.length ≤ sizeLine ∧ Q (.str d.shown) H
section
variable {X : Cx}
theorem low_of {pins : List (Addr × Obj)} {σ : L2.St} {H : Hp} {s : Shared} (I : L2.Inv X pins σ H s) (hb : ∃ o, X.base.get? sysModules = some o) : H sysModules = none := by
  obtain ⟨o, e⟩ := hb
  obtain ⟨h1, h2⟩ := I.ok.bs _ _ e
  exact I.base.free _ _ h1 h2 (I.ok.noex _ _ e)
theorem call_reprQ (hb : ∃ o, X.base.get? sysModules = some o) (hg : X.A.guards = some []) (hu : X.A.units + 64 < cLine) : CallR X (.builtin "repr") (rReprQ X.K) := by
  intro pins s σ H xs us Q I r h
  obtain ⟨P, v, d, rfl, hd, hs, hdep, hsz, q⟩ := h
  cases r with
  | cons r1 r2 =>
    cases r2
    rename_i u
    obtain ⟨as, rd, na⟩ := dq_reads I (low_of I hb) d v u hd r1
    have fin : ∀ a, u = .ref a → wpAny (model X.prog X.w) X.A (call (.builtin "repr") [u]) (EP X pins σ Q) X.xe s := fun a e => by
      subst e
      exact repr_of_reads' rd hs (fun _ => na) hg (by omega) (fun _ _ e => e) (fun h' u tk hk => ⟨.str _, H, I.kept (t' := tk) hk, ⟨_, rfl⟩, q⟩) hsz
    cases hd with
    | non => cases (show u = Value.none from r1); exact PySem.P.repr_of_none ⟨.str _, H, I.tok _, ⟨_, rfl⟩, q⟩
    | bl b => cases (show u = Value.bool b from r1); exact PySem.P.repr_of_bool ⟨.str _, H, I.tok _, ⟨_, rfl⟩, q⟩
    | int i => obtain ⟨t, e⟩ := (show ∃ t, u = Value.int i t from r1); cases e; exact PySem.P.repr_of_int (of_decide_eq_true hs) ⟨.str _, H, I.tok _, ⟨_, rfl⟩, q⟩
    | str y => obtain ⟨t, e⟩ := (show ∃ t, u = Value.str y t from r1); cases e; exact PySem.P.repr_of_str (hsz := hsz) ⟨.str _, H, I.tok _, ⟨_, rfl⟩, q⟩
    | lst _ _ _ => exact fin _ r1
    | tup _ _ => exact fin _ r1
    | dic _ => exact fin _ r1
/-! ### xs != [], whatever stands in xs -/
def rNeNil (K : PySem.W.Frag) (neg : Bool) : R2 := fun x y H Q => ∃ a b xs, x = .ref a ∧ y = .ref b ∧ SqL K H a xs ∧ SqL K H b [] ∧ Q (.bl (if neg then !xs.isEmpty else xs.isEmpty)) H
theorem isL {h : Heap} {a : Addr} {its : Array Value} (p : PlainL h a its) : h.IsList a its := let ⟨o, n, e, c, _, d⟩ := p; ⟨o, e, c, n, d⟩
theorem op_neNil (hu : X.A.units < cLine) : OpR X (compareOp .NotEq) (rNeNil X.K true) := by
  intro pins s σ H x y v u Q I rx ry h
  obtain ⟨a, b, xs, rfl, rfl, ha, hb, q⟩ := h
  cases (show v = Value.ref a from rx)
  cases (show u = Value.ref b from ry)
  obtain ⟨ia, va, la, _⟩ := I.list ha
  obtain ⟨ib, vb, lb, _⟩ := I.list hb
  cases vb
  cases va with
  | nil => exact SeqAt.RcNeAt.lists (e := fun _ => true) (isL la) (isL lb) rfl hu (fun j h1 h2 => absurd h1 (by simp)) _ _ _ _ ⟨.bl false, H, I, rfl, q⟩
  | cons r t => exact SeqAt.RcNeAt.lists_lengths (isL la) (isL lb) (by simp) hu _ _ _ _ ⟨.bl true, H, I, rfl, q⟩
theorem op_eqNil (hu : X.A.units < cLine) : OpR X (compareOp .Eq) (rNeNil X.K false) := by
  intro pins s σ H x y v u Q I rx ry h
  obtain ⟨a, b, xs, rfl, rfl, ha, hb, q⟩ := h
  cases (show v = Value.ref a from rx)
  cases (show u = Value.ref b from ry)
  obtain ⟨ia, va, la, _⟩ := I.list ha
  obtain ⟨ib, vb, lb, _⟩ := I.list hb
  cases vb
  cases va with
  | nil => exact SeqAt.RcAt.lists (e := fun _ => true) (isL la) (isL lb) rfl hu (fun j h1 h2 => absurd h1 (by simp)) _ _ _ _ ⟨.bl true, H, I, rfl, q⟩
  | cons r t => exact SeqAt.RcAt.lists_lengths (isL la) (isL lb) (by simp) hu _ _ _ _ ⟨.bl false, H, I, rfl, q⟩
/-! ### set(t), t a tuple of ints -/
def rSetOfI (K : PySem.W.Frag) (w : World) : List V → Hp → VK → Prop := fun vs H Q => ∃ (l : Addr) (ns : List Int), vs = [V.ref l] ∧ SqT K H l (ns.map V.int) ∧ ns.length ≤ 1000 ∧ ∀ a c, H a = none → c ≤ ns.length → Q (.ref a) (upd H a (SetO w a (fun j => decide (j ∈ ns)) c))
theorem cr_setOfI (hc : X.calm = true) : CallR X (.type "set") (rSetOfI X.K X.w) := by
  intro pins s σ H vs us Q I r h
  obtain ⟨l, ns, rfl, hs, hl, q⟩ := h
  obtain ⟨its, rv, ht, _⟩ := I.tuple hs
  rw [Vals.ref1 r]
  refine call_set_tupI ns (I.ok.hd hc) ht rv.ints (Nat.lt_of_le_of_lt (Nat.succ_le_succ hl) (by decide)) fun h' tk c hS hc' hk => ?_
  refine ⟨.ref _, upd H s.heap.objs.size (SetO X.w s.heap.objs.size (fun j => decide (j ∈ ns)) c), I.laid (t' := tk) hk (Nat.le_refl _) ?_, rfl, q _ c I.fresh hc'⟩
  obtain ⟨o, es, ep, t, e, rest⟩ := id hS
  refine ⟨hS, ⟨o, e⟩, fun h1 h2 hp hk2 => ?_⟩
  obtain ⟨o', es', ep', t', e', rest'⟩ := hp
  exact ⟨o', es', ep', t', hk2 _ e', rest'⟩
end
end Ew
namespace Ew
open PySem PySem.Spec PyProof.Rows L2
/-! ### t[::-1] of a tuple -/
theorem fm_congr {α β : Type} {f g : α → Option β} : ∀ {l : List α}, (∀ x ∈ l, f x = g x) → l.filterMap f = l.filterMap g
  | [], _ => rfl
  | a :: l, h => by
    rw [List.filterMap_cons, List.filterMap_cons, h a (by simp), fm_congr fun x hx => h x (by simp [hx])]
theorem pick_rev (xs : Array Value) : (List.filterMap (fun k => xs[((xs.size : Int) - 1 + ((k : Nat) : Int) * -1).toNat]?) (List.range xs.size)).toArray = xs.toList.reverse.toArray := by
  congr 1
  obtain ⟨l⟩ := xs
  show List.filterMap (fun k => (List.toArray l)[((l.length : Int) - 1 + ((k : Nat) : Int) * -1).toNat]?) (List.range l.length) = l.reverse
  have e : ∀ k ∈ List.range l.length, (fun (k : Nat) => (List.toArray l)[((l.length : Int) - 1 + ((k : Nat) : Int) * -1).toNat]?) k = (fun (k : Nat) => l.reverse[k]?) k := by
    intro k hk
    have hk' := List.mem_range.mp hk
    show (List.toArray l)[((l.length : Int) - 1 + ((k : Nat) : Int) * -1).toNat]? = l.reverse[k]?
    rw [List.getElem?_reverse hk', List.getElem?_toArray]
    congr 1
    omega
  rw [fm_congr e]
  have : ∀ r : List Value, List.filterMap (fun k => r[k]?) (List.range r.length) = r := by
    intro r
    refine List.ext_getElem? fun i => ?_
    have : List.filterMap (fun k => r[k]?) (List.range r.length) = (List.range r.length).map fun k => r.getD k .none := by
      rw [← List.filterMap_eq_map]
      refine fm_congr fun k hk => ?_
      have hk' := List.mem_range.mp hk
      simp [List.getD, hk']
    rw [this, List.getElem?_map]
    by_cases h : i < r.length
    · rw [List.getElem?_range h]
      simp [List.getD, h]
    · rw [List.getElem?_eq_none (by simpa using h), List.getElem?_eq_none (by simpa using h)]
      rfl
  have h2 := this l.reverse
  rw [List.length_reverse] at h2
  exact h2
section
variable {prog : Program} {w : World} {A : Around} {E : Value → Shared → Prop} {s : Shared}
theorem applied_rev {sl : Addr} {u : Tok} {n : Nat} {Q : Int × Int × Nat → Shared → Prop} (hs : s.heap.IsSliceOf sl .none .none (.int (-1) u)) (h : Q ((n : Int) - 1, -1, n) s) :
    wpAny (model prog w) A (Builtin.Slice.sliceApplied (.ref sl) (pure (n : Int))) Q E s := by
  obtain ⟨os, hos, hcs, hds⟩ := id hs
  unfold Builtin.Slice.sliceApplied
  refine wpAny_bind (wpAny_bind (wpAny_field hos hds rfl (wpAny_bind (wpAny_field hos hds rfl (wpAny_bind (wpAny_field hos hds rfl (wpAny_pure ?_)))))))
  refine wpAny_bind (HT.slicePart_ (.int (-1) u) ?_)
  dsimp only
  rw [if_neg (by decide)]
  refine wpAny_bind (slicePart_none (wpAny_bind (slicePart_none (wpAny_bind (wpAny_pure ?_)))))
  have e1 : Builtin.Slice.sliceAdjust none none (-1) (n : Int) = ((n : Int) - 1, -1) := rfl
  have e2 : Builtin.Slice.slicePlaces ((n : Int) - 1) (-1) (-1) = n := by
    unfold Builtin.Slice.slicePlaces
    rw [if_neg (by decide)]
    by_cases hn : n = 0
    · subst hn
      rfl
    · rw [if_pos (by omega)]
      have : ((n : Int) - 1 - -1 - 1) / - -1 + 1 = n := by
        rw [Int.neg_neg, Int.ediv_one]
        omega
      rw [this]
      exact Int.toNat_natCast n
  show wpAny _ _ (match Builtin.Slice.sliceAdjust none none (-1) (n : Int) with
    | (lo, hi) => pure (lo, -1, Builtin.Slice.slicePlaces lo hi (-1))) _ _ _
  rw [e1]
  show wpAny _ _ (pure ((n : Int) - 1, -1, Builtin.Slice.slicePlaces ((n : Int) - 1) (-1) (-1))) _ _ _
  rw [e2]
  exact wpAny_pure h
theorem getItem_tuple_rev {t sl : Addr} {items : Array Value} {u : Tok} {Q : Value → Shared → Prop} (ht : IsTup s.heap t items) (hs : s.heap.IsSliceOf sl .none .none (.int (-1) u)) (hsz : items.size ≤ sizeLine)
    (h : Q (.ref s.heap.objs.size) { s with heap := s.heap.push { cls := .type "tuple", data := .seq items.toList.reverse.toArray } }) : wpAny (model prog w) A (getItem (.ref t) (.ref sl)) Q E s := by
  obtain ⟨os, hos, hcs, hds⟩ := id hs
  have hTs : s.TypeIs (.ref sl) "slice" := ⟨os, hos, hcs⟩
  unfold getItem
  refine wpAny_holding (wpAny_bind (wpAny_sequenceKey (IsTup.typeIs ht) (by decide) (wpAny_bind (wpAny_callSpecial?_slot (IsTup.typeIs ht) slot_tuple_getitem (wpAny_call_entry slot_tuple_getitem (IsTup.typeIs ht) entry_tuple_getitem ?_ (args_tuple_getitem _ _))))))
  show wpAny _ _ (Builtin.«tuple.__getitem__» ⟨[.ref t, .ref sl], []⟩) _ _ _
  unfold Builtin.«tuple.__getitem__»
  refine wpAny_bind (m := slotArgs "__getitem__" 1 ⟨[.ref t, .ref sl], []⟩) (wpAny_pure ?_)
  refine wpAny_bind (tupleItemsOf_ ht (wpAny_bind (wpAny_typeOf hTs ?_)))
  rw [if_pos (by decide)]
  refine wpAny_bind (applied_rev hs ?_)
  dsimp only
  rw [if_neg (by rw [show (((-1 : Int) == 1) = false) from rfl, Bool.and_false, Bool.false_and]; decide)]
  rw [pick_rev]
  refine wpAny_bind (wpAny_newObj_type (wpAny_pure ⟨_, rfl, wpAny_pure h⟩) ?_)
  show items.toList.reverse.toArray.size ≤ sizeLine
  simpa using hsz
end
def tRevT (K : PySem.W.Frag) (te : TE) : TE := fun σ H Q => te σ H fun x H1 => ∃ a xs, x = .ref a ∧ SqT K H1 a xs ∧ ∀ p, H1 p = none → Q (.ref p) (upd H1 p (.tup xs.reverse))
section
variable {X : Cx} {e : Expr} {te : TE}
theorem pe_revT {k : Nat} {p1 p2 p3 pos : Pos} (he : PE X e te) : PE X (e.Subscript (.Slice none none (some (.UnaryOp .USub (.Constant (.int 1) k p1) p2)) p3) pos) (tRevT X.K te) := by
  refine ⟨fun pins s σ H Q I h => Subscript_ (thn (he.run pins s σ H _ I h) fun v s1 ⟨x, H1, I1, r1, q1⟩ => ?_)⟩
  obtain ⟨a, xs, rfl, hx, q⟩ := q1
  cases (show v = Value.ref a from r1)
  refine wpAny_Slice ?_
  rw [evalPart_none X.env]
  refine wpAny_pure ?_
  refine wpAny_pure (thn ((po_some (pe_un un_neg pe_int)).run pins s1 σ H1 (fun o H4 => o = some (-1) ∧ H4 = H1) I1 ⟨1, rfl, -1, rfl, rfl, rfl⟩) fun vs s4 ⟨o, H4, I4, ps, eo, e4⟩ => ?_)
  subst eo
  subst e4
  cases ps with
  | int _ u =>
    have I5 := I4.kept (t' := s4.toks) (h' := s4.heap.push { cls := .type "slice", data := .fields #[.none, .none, .int (-1) u] }) fun b ob q => Heap.get?_push_of_some _ q
    obtain ⟨its, rv, ht, hz⟩ := I5.tuple hx
    refine tail_any (IsTup.typeIs ht) slot_tuple_getitem.lookup ?_ rfl
    refine getItem_tuple_rev ht (Heap.IsSliceOf.new s4.heap _ _ _) (by rw [List.size_toArray, ← rv.length]; exact hz) ?_
    refine ⟨.ref _, upd H4 _ (.tup xs.reverse), I5.laid (t' := s4.toks) (fun b ob q => Heap.get?_push_of_some _ q) (Nat.le_refl _) ?_, rfl, q _ I5.fresh⟩
    have rr : Vals xs.reverse its.reverse := Paired.rev rv
    exact ⟨by rw [List.length_reverse]; exact hz, its.reverse, rr, _, Heap.get?_push_size _ rfl, rfl, 0, by simp⟩
end
/-! ### xs[a:b] = ys -/
def gSlc (to : TE) (tl th : TO) : TG := fun v σ H Q => to σ H fun x H1 => tl σ H1 fun lo H2 => th σ H2 fun hi H3 => ∃ (a b : Addr) (xs ys : List V) (i c : Int), x = .ref a ∧ v = .ref b ∧ lo = some i ∧ hi = some c ∧ H3 a = some (.lst xs) ∧ H3 b = some (.lst ys) ∧ a ≠ b ∧ 0 ≤ i ∧ i ≤ c ∧ c ≤ (xs.length : Int) ∧ xs.length + ys.length ≤ sizeLine ∧ Q σ (upd H3 a (.lst (xs.take i.toNat ++ ys ++ xs.drop c.toNat)))
section
variable {X : Cx} {o : Expr} {to : TE} {lo hi : Option Expr} {tl th : TO} {pos p2 : Pos}
theorem pg_slc (ho : PE X o to) (hl : PO X lo tl) (hh : PO X hi th)
    (ha : ∀ v : Value, assign (o.Subscript (.Slice lo hi none p2) pos) X.env v = (do
      let ov ← holding [v] (eval o X.env)
      let iv ← holding [v, ov] (eval (.Slice lo hi none p2) X.env)
      standAt pos
      holding [v, ov, iv] (setItem ov iv v)
      release [iv, v, ov] []) := by intro _; rfl) : PG X (o.Subscript (.Slice lo hi none p2) pos) (gSlc to tl th) := by
  refine ⟨fun pins s σ H v u Q I r h => ?_⟩
  rw [ha u]
  refine wpAny_bind (wpAny_holding (thn (ho.run pins s σ H _ I h) fun ov s1 ⟨x, H1, I1, r1, q1⟩ => wpAny_bind (wpAny_holding (wpAny_Slice (thn (hl.run pins s1 σ H1 _ I1 q1) fun vl s2 ⟨l, H2, I2, pl, q2⟩ => thn (hh.run pins s2 σ H2 _ I2 q2) fun vu s3 ⟨z, H3, I3, pu, q3⟩ => ?_)))))
  rw [evalPart_none X.env]
  refine wpAny_pure (wpAny_bind (wpAny_standAt (wpAny_bind (wpAny_holding ?_))))
  obtain ⟨a, b, xs, ys, i, c, rfl, rfl, rfl, rfl, hA, hB, nab, i0, ic, cl, hz, q⟩ := q3
  cases (show ov = Value.ref a from r1)
  cases (show u = Value.ref b from r)
  cases pl with
  | int _ t1 =>
    cases pu with
    | int _ t2 =>
      have I4 := I3.kept (t' := s3.toks) (h' := s3.heap.push { cls := .type "slice", data := .fields #[.int i t1, .int c t2, .none] }) fun b ob q => Heap.get?_push_of_some _ q
      exact set_slice I4 hA hB nab (Heap.IsSliceOf.new s3.heap _ _ _) ⟨_, rfl⟩ ⟨_, rfl⟩ i0 ic cl hz fun s' I5 => wpAny_release ⟨σ, _, I5, q⟩
end
end Ew
namespace Ew
open PySem PySem.Spec PyProof.Rows L2
/-! ### rows as data of any kind -/
instance (r : Int × List Int) (w : List Int) : Decidable (RowOk r w) := by unfold RowOk; infer_instance
def intsOf : List PyData → Option (List Int)
  | [] => some []
  | .int i :: r => (intsOf r).map (i :: ·)
  | _ :: _ => none
def rowOf : PyData → Option (List Int)
  | .tuple ds => intsOf ds
  | _ => none
def isRowD (r : Int × List Int) (d : PyData) : Bool := match rowOf d with
  | some w => decide (RowOk r w)
  | none => false
def areRowsD (rs : List (Int × List Int)) : PyData → Bool
  | .list ds => decide (ds.length = rs.length) && (ds.zip rs).all fun p => isRowD p.2 p.1
  | _ => false
def ascI (n : Int) : Int → List Int → Bool
  | _, [] => true
  | l, i :: r => decide (l < i) && decide (i < n) && ascI n i r
theorem intsOf_map : ∀ w : List Int, intsOf (w.map .int) = some w
  | [] => rfl
  | i :: w => by
    show (intsOf (w.map .int)).map (i :: ·) = _
    rw [intsOf_map w]
    rfl
theorem rowOf_dT (w : List Int) : rowOf (dT w) = some w := intsOf_map w
theorem ascI_iff {n : Int} : ∀ {w : List Int} {l : Int}, ascI n l w = true ↔ w.Pairwise (· < ·) ∧ ∀ x ∈ w, l < x ∧ x < n
  | [], l => by simp [ascI]
  | i :: w, l => by
    have ih := ascI_iff (n := n) (w := w) (l := i)
    show (decide (l < i) && decide (i < n) && ascI n i w) = true ↔ _
    rw [Bool.and_eq_true, Bool.and_eq_true, ih, decide_eq_true_eq, decide_eq_true_eq, List.pairwise_cons]
    constructor
    · rintro ⟨⟨h1, h2⟩, h3, h4⟩
      refine ⟨⟨fun x hx => (h4 x hx).1, h3⟩, fun x hx => ?_⟩
      rcases List.mem_cons.mp hx with e | e
      · subst e; exact ⟨h1, h2⟩
      · have := h4 x e; omega
    · rintro ⟨⟨h1, h2⟩, h3⟩
      have h0 := h3 i (by simp)
      exact ⟨h0, h2, fun x hx => ⟨h1 x hx, (h3 x (by simp [hx])).2⟩⟩
section
variable {K : PySem.W.Frag} {P : Addr → Prop} {H : Hp}
theorem ints_of : ∀ {vs : List V} {ds : List PyData} {w : List Int}, DqA K P H vs ds → intsOf ds = some w → vs = w.map V.int ∧ ds = w.map .int
  | [], [], w, _, e => by
    cases (show w = [] from (Option.some.inj e).symm)
    exact ⟨rfl, rfl⟩
  | v :: vs, d :: ds, w, .cons a t, e => by
    cases a with
    | int i =>
      cases h : intsOf ds with
      | none =>
        have : intsOf (.int i :: ds) = none := by show (intsOf ds).map (i :: ·) = none; rw [h]; rfl
        rw [this] at e
        cases e
      | some w' =>
        have : intsOf (.int i :: ds) = some (i :: w') := by show (intsOf ds).map (i :: ·) = _; rw [h]; rfl
        rw [this] at e
        cases e
        obtain ⟨e1, e2⟩ := ints_of t h
        rw [e1, e2]
        exact ⟨rfl, rfl⟩
    | _ => cases e
theorem dqA_ty {vs : List V} {ds : List PyData} (h : DqA K P H vs ds) : ∀ y ∈ vs, ∃ T, TyX K H y (.type T) := by
  intro y hy
  obtain ⟨i, hi⟩ := List.getElem?_of_mem hy
  obtain ⟨d, _, hd⟩ := h.at1 hi
  exact ⟨_, dq_bt hd⟩
end
theorem RdOk.mem {n : Int} {r : Int × List Int} (h : RdOk n r) {x : Int} (hx : x ∈ r.2) : 0 ≤ x ∧ x < n := h.2.2.2 x hx
/-- a row, as the package looks at it -/
theorem isRow_asc {n : Int} {r : Int × List Int} {w : List Int} (h : RdOk n r) : decide (RowOk r w) = (ascI n (-1) w && (decide ((w.length : Int) ≤ r.1) && w.all fun x => decide (x ∈ r.2))) := by
  rw [Bool.eq_iff_iff, Bool.and_eq_true, Bool.and_eq_true, ascI_iff, decide_eq_true_eq, decide_eq_true_eq, List.all_eq_true]
  constructor
  · rintro ⟨h1, h2, h3⟩
    exact ⟨⟨h1, fun x hx => by have := h.mem (h2 x hx); omega⟩, h3, fun x hx => decide_eq_true (h2 x hx)⟩
  · rintro ⟨⟨h1, _⟩, h3, h4⟩
    exact ⟨h1, fun x hx => of_decide_eq_true (h4 x hx), h3⟩
theorem asc_same : ∀ {a b : List Int}, a.Pairwise (· < ·) → b.Pairwise (· < ·) → (∀ x, x ∈ a ↔ x ∈ b) → a = b
  | [], [], _, _, _ => rfl
  | [], y :: b, _, _, h => by have := (h y).mpr (by simp); simp at this
  | x :: a, [], _, _, h => by have := (h x).mp (by simp); simp at this
  | x :: a, y :: b, ha, hb, h => by
    have ha' := List.pairwise_cons.mp ha
    have hb' := List.pairwise_cons.mp hb
    have e : x = y := by
      rcases List.mem_cons.mp ((h x).mp (by simp)) with e | e
      · exact e
      · rcases List.mem_cons.mp ((h y).mpr (by simp)) with e2 | e2
        · exact e2.symm
        · have := hb'.1 x e
          have := ha'.1 y e2
          omega
    subst e
    have : a = b := asc_same ha'.2 hb'.2 fun z => by
      constructor
      · intro hz
        rcases List.mem_cons.mp ((h z).mp (by simp [hz])) with e | e
        · have := ha'.1 z hz; omega
        · exact e
      · intro hz
        rcases List.mem_cons.mp ((h z).mpr (by simp [hz])) with e | e
        · have := hb'.1 z hz; omega
        · exact e
    rw [this]
/-- a list is its own things in order, once each, where it is ascending -/
theorem sorted_self {w ns : List Int} (h1 : ns.Pairwise (· < ·)) (h2 : ∀ k, k ∈ ns ↔ k ∈ w) : decide (w = ns) = decide (w.Pairwise (· < ·)) := by
  rw [Bool.eq_iff_iff, decide_eq_true_eq, decide_eq_true_eq]
  constructor
  · intro e; rw [e]; exact h1
  · intro h; exact asc_same h h1 fun x => (h2 x).symm
/-- data that is rows -/
theorem rows_of {K : PySem.W.Frag} {P : Addr → Prop} {H : Hp} : ∀ {rs : List (Int × List Int)} {ds : List PyData} {vs : List V}, DqA K P H vs ds → ds.length = rs.length → ((ds.zip rs).all fun p => isRowD p.2 p.1) = true →
    ∃ ws : List (List Int), ds = ws.map dT ∧ Paired (RowT K H) vs ws ∧ Paired RowOk rs ws
  | [], [], [], _, _, _ => ⟨[], rfl, .nil, .nil⟩
  | r :: rs, d :: ds, v :: vs, .cons a t, el, h => by
    have h' : isRowD r d = true ∧ ((ds.zip rs).all fun p => isRowD p.2 p.1) = true := by
      rw [List.zip_cons_cons, List.all_cons, Bool.and_eq_true] at h
      exact h
    obtain ⟨ws, e1, e2, e3⟩ := rows_of t (by simpa using el) h'.2
    have h1 := h'.1
    unfold isRowD at h1
    cases a with
    | @tup ad xs es q ha =>
      cases he : intsOf es with
      | none =>
        have : rowOf (.tuple es) = none := he
        rw [this] at h1
        cases h1
      | some w =>
        have : rowOf (.tuple es) = some w := he
        rw [this] at h1
        obtain ⟨f1, f2⟩ := ints_of ha he
        subst f1
        subst f2
        refine ⟨w :: ws, ?_, .cons ⟨_, rfl, q⟩ e2, .cons (of_decide_eq_true h1) e3⟩
        rw [e1]
        rfl
    | _ => cases h1
/-! ### the present rows -/
def presR (as : List Int) : Nat → List (List Int) → List (List Int)
  | _, [] => []
  | k, w :: ws => if ((k : Nat) : Int) ∈ as then presR as (k + 1) ws else w :: presR as (k + 1) ws
theorem presR_snoc (as : List Int) (w : List Int) : ∀ (ws : List (List Int)) (k : Nat), presR as k (ws ++ [w]) = presR as k ws ++ (if ((k + ws.length : Nat) : Int) ∈ as then [] else [w])
  | [], k => rfl
  | v :: ws, k => by
    have ih := presR_snoc as w ws (k + 1)
    have e : k + 1 + ws.length = k + (v :: ws).length := by rw [List.length_cons]; omega
    rw [e] at ih
    show (if ((k : Nat) : Int) ∈ as then presR as (k + 1) (ws ++ [w]) else v :: presR as (k + 1) (ws ++ [w])) = (if ((k : Nat) : Int) ∈ as then presR as (k + 1) ws else v :: presR as (k + 1) ws) ++ _
    rw [ih]
    split <;> rfl
theorem presR_len (as : List Int) : ∀ (ws : List (List Int)) (k : Nat), (presR as k ws).length ≤ ws.length
  | [], _ => Nat.le_refl _
  | v :: ws, k => by
    have ih := presR_len as ws (k + 1)
    show (if ((k : Nat) : Int) ∈ as then presR as (k + 1) ws else v :: presR as (k + 1) ws).length ≤ _
    split
    · rw [List.length_cons]; omega
    · rw [List.length_cons, List.length_cons]; omega
theorem presR_nil : ∀ (ws : List (List Int)) (k : Nat), presR [] k ws = ws
  | [], _ => rfl
  | v :: ws, k => by
    show (if ((k : Nat) : Int) ∈ [] then presR [] (k + 1) ws else v :: presR [] (k + 1) ws) = _
    rw [if_neg (by simp), presR_nil ws]
theorem presR_mem (as : List Int) : ∀ (ws : List (List Int)) (k : Nat) {w : List Int}, w ∈ presR as k ws → w ∈ ws
  | v :: ws, k, w, h => by
    have h' : w ∈ (if ((k : Nat) : Int) ∈ as then presR as (k + 1) ws else v :: presR as (k + 1) ws) := h
    split at h'
    · exact List.mem_cons_of_mem _ (presR_mem as ws (k + 1) h')
    · rcases List.mem_cons.mp h' with e | e
      · rw [e]; simp
      · exact List.mem_cons_of_mem _ (presR_mem as ws (k + 1) e)
/-- rows in which absent readers read nothing, and the others what they read -/
def contB (as : List Int) : Nat → List (List Int) → List (List Int) → Bool
  | k, w :: ws, v :: vs => (if ((k : Nat) : Int) ∈ as then decide (v = []) else w.all fun x => decide (x ∈ v)) && contB as (k + 1) ws vs
  | _, _, _ => true
theorem contB_pres {as : List Int} {c : Int} : ∀ {ws vs : List (List Int)} {k : Nat}, ws.length = vs.length → contB as k ws vs = true → ((presR as k vs).filter fun r => decide (c ∈ r)) = vs.filter fun r => decide (c ∈ r)
  | [], [], _, _, _ => rfl
  | w :: ws, v :: vs, k, el, h => by
    have h' : (if ((k : Nat) : Int) ∈ as then decide (v = []) else w.all fun x => decide (x ∈ v)) = true ∧ contB as (k + 1) ws vs = true := by
      have : ((if ((k : Nat) : Int) ∈ as then decide (v = []) else w.all fun x => decide (x ∈ v)) && contB as (k + 1) ws vs) = true := h
      exact Bool.and_eq_true_iff.mp this
    have ih := contB_pres (c := c) (k := k + 1) (by simpa using el) h'.2
    have h1 := h'.1
    show ((if ((k : Nat) : Int) ∈ as then presR as (k + 1) vs else v :: presR as (k + 1) vs).filter fun r => decide (c ∈ r)) = _
    by_cases hk : ((k : Nat) : Int) ∈ as
    · rw [if_pos hk, ih]
      rw [if_pos hk] at h1
      have := of_decide_eq_true h1
      subst this
      rfl
    · rw [if_neg hk, List.filter_cons, List.filter_cons, ih]
end Ew
namespace Ew
open PySem PySem.Spec PyProof.Rows L2
section
variable {K : PySem.W.Frag} {C : Addr} {α β γ δ : Type} {k : Kd K C α} {k1 : Kd K C β} {k2 : Kd K C γ} {k3' : Kd K C δ} {S : List Addr} {H : Hp} {σ : L2.St} {te ta tb : TE} {x : α}
theorem bt_kI : ∀ (S : List Addr) (H : Hp) (v : V) (x : Int), (kI (K := K) (C := C)).rp S H v x → Bt K H v "int" := fun S H v x h => by
  cases (show v = .int x from h)
  exact .base (.int x)
theorem bt_kB : ∀ (S : List Addr) (H : Hp) (v : V) (x : Bool), (kB (K := K) (C := C)).rp S H v x → Bt K H v "bool" := fun S H v x h => by
  cases (show v = .bl x from h)
  exact .base (.bl x)
theorem bt_kS : ∀ (S : List Addr) (H : Hp) (v : V) (x : Str), (kS (K := K) (C := C)).rp S H v x → Bt K H v "str" := fun S H v x h => by
  cases (show v = .str x from h)
  exact .base (.str x)
theorem bt_kL : ∀ (S : List Addr) (H : Hp) (v : V) (x : List α), (kL k).rp S H v x → Bt K H v "list" := fun S H v x h => by
  obtain ⟨a, vs, rfl, _, h, _⟩ := h
  exact bt_lst (.inl (.inl h))
theorem bt_kT : ∀ (S : List Addr) (H : Hp) (v : V) (x : List α), (kT k).rp S H v x → Bt K H v "tuple" := fun S H v x h => by
  obtain ⟨a, vs, rfl, h, _⟩ := h
  exact bt_tup h
theorem bt_kP : ∀ (S : List Addr) (H : Hp) (v : V) (x : α × β), (kP k k1).rp S H v x → Bt K H v "tuple" := fun S H v x h => by
  obtain ⟨t, v1, v2, rfl, h, _⟩ := h
  exact bt_tup h
theorem bt_k3 : ∀ (S : List Addr) (H : Hp) (v : V) (x : α × β × γ), (k3 k k1 k2).rp S H v x → Bt K H v "tuple" := fun S H v x h => by
  obtain ⟨t, v1, v2, v3, rfl, h, _⟩ := h
  exact bt_tup h
theorem ev_isi {T0 T : String} {b : Bool} (h : Ev k S H te σ x) (ht : ∀ (S : List Addr) (H : Hp) (v : V) (x : α), k.rp S H v x → Bt K H v T0) (hb : PySem.W.kitOne K (.type T0) (.type T) = some b) : Ev (K := K) (C := C) kB S H (tCB (rIsi K) (tCons te (tCons (tC (.ty T)) tNil))) σ b := fun H1 s Q q =>
  h H1 s _ fun v H2 s2 r => ⟨v, .ty T, _, _, b, rfl, .ty _, ht _ _ _ _ r, hb, q _ H2 s2 rfl⟩
theorem ev_isInt {i : Int} (h : Ev (K := K) (C := C) kI S H te σ i) : Ev (K := K) (C := C) kB S H (tCall (spIsInt K) [] C8.E0 (tCons te tNil)) σ true := fun H1 s Q q =>
  h H1 s _ fun v H2 s2 r => by
    cases (show v = .int i from r)
    exact ⟨_, "int", rfl, .base (.int i), q _ H2 s2 rfl⟩
theorem ev_isIntO {i : Option Int} (h : Ev (K := K) (C := C) (kO kI) S H te σ i) : Ev (K := K) (C := C) kB S H (tCall (spIsInt K) [] C8.E0 (tCons te tNil)) σ i.isSome := fun H1 s Q q =>
  h H1 s _ fun v H2 s2 r => by
    cases i with
    | none =>
      cases (show v = .non from r)
      exact ⟨_, "NoneType", rfl, .base .non, q _ H2 s2 rfl⟩
    | some i =>
      cases (show v = .int i from r)
      exact ⟨_, "int", rfl, .base (.int i), q _ H2 s2 rfl⟩
theorem ascV_map {n : Int} : ∀ (l : List Int) (lo : Int), ascV n lo (l.map V.int) = ascI n lo l
  | [], _ => rfl
  | i :: l, lo => by
    show (decide (lo < i) && decide (i < n) && ascV n i (l.map V.int)) = (decide (lo < i) && decide (i < n) && ascI n i l)
    rw [ascV_map l i]
theorem ev_isAsc {l : List Int} {n : Int} (h : Ev (K := K) (C := C) (kT kI) S H ta σ l) (g : Ev (K := K) (C := C) kI S H tb σ n) : Ev (K := K) (C := C) kB S H (tCall (spIsAsc K) [] C8.E0 (tCons ta (tCons tb tNil))) σ (ascI n (-1) l) := fun H1 s Q q =>
  (eva_cons h (eva_cons g eva_nil)) H1 s _ fun vs H2 s2 rv => by
    obtain ⟨v1, r1, rfl, h1, v2, r2, e, h2, e2⟩ := rv
    cases (show r1 = _ from e)
    cases (show r2 = [] from e2)
    cases (show v2 = .int n from h2)
    obtain ⟨t, rfl, h1, _⟩ := kT_ints h1
    refine ⟨_, n, rfl, .inr ⟨t, _, rfl, h1, fun y hy => ?_, ?_⟩⟩
    · obtain ⟨i, _, rfl⟩ := List.mem_map.mp hy
      exact ⟨"int", .base (.int i)⟩
    · rw [ascV_map]
      exact q _ H2 s2 rfl
theorem ev_len2 {y : α × β} (h : Ev (kP k k1) S H ta σ y) : Ev (K := K) (C := C) kI S H (tCB (rLen K) (tCons ta tNil)) σ 2 :=
  ev_cb (eva_cons h eva_nil) fun vs H1 _ rv Q q => by
    obtain ⟨v, r, rfl, ⟨t, v1, v2, rfl, hT, _⟩, e⟩ := rv
    cases (show r = [] from e)
    exact ⟨t, _, rfl, .inr hT, q _ H1 (Same.refl _) rfl⟩
theorem ev_len3 {y : α × β × γ} (h : Ev (k3 k k1 k2) S H ta σ y) : Ev (K := K) (C := C) kI S H (tCB (rLen K) (tCons ta tNil)) σ 3 :=
  ev_cb (eva_cons h eva_nil) fun vs H1 _ rv Q q => by
    obtain ⟨v, r, rfl, ⟨t, v1, v2, v3, rfl, hT, _⟩, e⟩ := rv
    cases (show r = [] from e)
    exact ⟨t, _, rfl, .inr hT, q _ H1 (Same.refl _) rfl⟩
theorem ev_31 {y : α × β × γ} (h : Ev (k3 k k1 k2) S H ta σ y) : Ev k S H (tOp (rIxT K) ta (tC (.int 0))) σ y.1 :=
  ev_op2 h ev_int fun v w H1 _ e1 e2 Q q => by
    obtain ⟨t, v1, v2, v3, rfl, h, r1, r2, r3⟩ := e1
    exact ⟨t, _, 0, v1, rfl, e2, h, rfl, q _ H1 (Same.refl _) r1⟩
theorem ev_32 {y : α × β × γ} (h : Ev (k3 k k1 k2) S H ta σ y) : Ev k1 S H (tOp (rIxT K) ta (tC (.int 1))) σ y.2.1 :=
  ev_op2 h ev_int fun v w H1 _ e1 e2 Q q => by
    obtain ⟨t, v1, v2, v3, rfl, h, r1, r2, r3⟩ := e1
    exact ⟨t, _, 1, v2, rfl, e2, h, rfl, q _ H1 (Same.refl _) r2⟩
theorem ev_33 {y : α × β × γ} (h : Ev (k3 k k1 k2) S H ta σ y) : Ev k2 S H (tOp (rIxT K) ta (tC (.int 2))) σ y.2.2 :=
  ev_op2 h ev_int fun v w H1 _ e1 e2 Q q => by
    obtain ⟨t, v1, v2, v3, rfl, h, r1, r2, r3⟩ := e1
    exact ⟨t, _, 2, v3, rfl, e2, h, rfl, q _ H1 (Same.refl _) r3⟩
theorem q_set3 {z : α × β × γ} {D : Ends} {u : TS} {i j m : Nat} (h : Ev (k3 k k1 k2) S H te σ z) (q : ∀ v1 v2 v3 H2, Same H H2 → k.rp S H2 v1 z.1 → k1.rp S H2 v2 z.2.1 → k2.rp S H2 v3 z.2.2 → u D (((σ.set i (some v1)).set j (some v2)).set m (some v3)) H2) : tSeq (tAsg te (gTup K 3 (gCons (gName i) (gCons (gName j) (gCons (gName m) gNil))))) u D σ H :=
  h.use fun v H2 s ⟨t, v1, v2, v3, e, hT, r1, r2, r3⟩ => ⟨t, _, e, hT, rfl, v1, _, rfl, v2, _, rfl, v3, _, rfl, rfl, q v1 v2 v3 H2 s r1 r2 r3⟩
theorem nn_I : ∀ (S : List Addr) (H : Hp) (v : V) (x : Int), (kI (K := K) (C := C)).rp S H v x → v ≠ .non := fun S H v x h e => by
  cases (show v = .int x from h)
  cases e
theorem nn_T : ∀ (S : List Addr) (H : Hp) (v : V) (x : List α), (kT k).rp S H v x → v ≠ .non := fun S H v x h e => by
  obtain ⟨t, vs, rfl, _⟩ := h
  cases e
theorem nn_P : ∀ (S : List Addr) (H : Hp) (v : V) (x : α × β), (kP k k1).rp S H v x → v ≠ .non := fun S H v x h e => by
  obtain ⟨t, _, _, rfl, _⟩ := h
  cases e
abbrev rIsN : R2 := fun x y H Q => y = .non ∧ Q (.bl (decide (x = .non))) H
abbrev rNotN : R2 := fun x y H Q => y = .non ∧ Q (.bl (!decide (x = .non))) H
theorem ev_isN {y : Option α} (h : Ev (kO k) S H te σ y) (nn : ∀ (S : List Addr) (H : Hp) (v : V) (x : α), k.rp S H v x → v ≠ .non) : Ev (K := K) (C := C) kB S H (tOp rIsN te (tC .non)) σ y.isNone := fun H1 s Q q =>
  h H1 s _ fun v H2 s2 r => ⟨rfl, q _ H2 s2 (by
    cases y with
    | none => cases (show v = .non from r); rfl
    | some y =>
      have := nn _ _ _ _ (show k.rp S H2 v y from r)
      show V.bl (decide (v = .non)) = V.bl false
      rw [decide_eq_false this])⟩
theorem ev_notN {y : Option α} (h : Ev (kO k) S H te σ y) (nn : ∀ (S : List Addr) (H : Hp) (v : V) (x : α), k.rp S H v x → v ≠ .non) : Ev (K := K) (C := C) kB S H (tOp rNotN te (tC .non)) σ y.isSome := fun H1 s Q q =>
  h H1 s _ fun v H2 s2 r => ⟨rfl, q _ H2 s2 (by
    cases y with
    | none => cases (show v = .non from r); rfl
    | some y =>
      have := nn _ _ _ _ (show k.rp S H2 v y from r)
      show V.bl (!decide (v = .non)) = V.bl true
      rw [decide_eq_false this]
      rfl)⟩
end
end Ew
namespace Ew
open PySem PySem.Spec PyProof.Rows L2
def giveB (b : Bk) (kw ws : List (List Int)) (r : Int) : Option Int → Bool
  | none => freeB b ws r
  | some g => decide (g ∈ looseB kw ws r)
def linkB (b : Bk) (kw ws : List (List Int)) (as : List Int) (z : Option Int) (l : Link) : Bool := decide (some l.2.1 = z) && (decide (l.1 ∈ takersB b ws as l.2.1) && giveB b kw ws l.1 l.2.2)
def setB (n : Int) (l : List Int) : Bool := ascI n (-1) l && decide ((0 : Int) < (l.length : Nat))
def barB (b : Bk) (kw ws : List (List Int)) (r : Int) (l : List Int) : Bool := if (!l.any fun z => canB b ws r z) = true then true else if freeB b ws r = true then false else (looseB kw ws r).all fun z => decide (z ∈ l)
def closB (b : Bk) (kw ws : List (List Int)) (as l : List Int) : Bool := setB b.ds.length l && (presB b as).all fun r => barB b kw ws r l
def chainB (b : Bk) (kw ws : List (List Int)) (as : List Int) : List Link → Option Int → List Int → Bool
  | [], z, _ => z.isNone
  | l :: ls, z, e => if (!linkB b kw ws as z l || decide (l.1 ∈ e)) = true then false else chainB b kw ws as ls l.2.2 (e ++ [l.1])
theorem row_no {l : List Int} {r : Int × List Int} (h : (!(List.map (fun y => y) (l.filter fun y => !decide (y ∈ r.2))).isEmpty) = true) : false = decide (RowOk r l) := by
  refine (decide_eq_false fun h' => ?_).symm
  rw [List.map_id', List.filter_eq_nil_iff.mpr fun x hx => by simp [h'.2.1 x hx]] at h
  cases h
theorem row_yes {l : List Int} {r : Int × List Int} (h1 : (!true || decide (r.1 < ((l.length : Nat) : Int))) = false) (h : (!(List.map (fun y => y) (l.filter fun y => !decide (y ∈ r.2))).isEmpty) = false) : decide (l.Pairwise (· < ·)) = decide (RowOk r l) := by
  have h1 := of_decide_eq_false (show decide (r.1 < ((l.length : Nat) : Int)) = false from h1)
  have h2 : l.filter (fun y => !decide (y ∈ r.2)) = [] := by
    rw [List.map_id'] at h
    simpa using h
  have h3 : ∀ x ∈ l, x ∈ r.2 := fun x hx => by
    have := List.filter_eq_nil_iff.mp h2 x hx
    simpa using this
  by_cases hp : l.Pairwise (· < ·)
  · rw [decide_eq_true hp, decide_eq_true ⟨hp, h3, by omega⟩]
  · rw [decide_eq_false hp, decide_eq_false fun h => hp h.1]
def rowsB (ws : List (List Int)) (rs : List (Int × List Int)) : Bool := decide (ws.length = rs.length) && (ws.zip rs).all fun p => decide (RowOk p.2 p.1)
theorem rows_no {ws : List (List Int)} {rs : List (Int × List Int)} (h : (!true || !decide (((ws.length : Nat) : Int) = ((rs.length : Nat) : Int))) = true) : rowsB ws rs = false := by
  have h : ¬ ((ws.length : Nat) : Int) = ((rs.length : Nat) : Int) := by simpa using h
  unfold rowsB
  rw [decide_eq_false (by omega), Bool.false_and]
theorem rows_yes {ws : List (List Int)} {rs : List (Int × List Int)} (h : (!true || !decide (((ws.length : Nat) : Int) = ((rs.length : Nat) : Int))) = false) : (List.map (fun _ => (1 : Int)) ((ws.zip rs).filter fun y => !decide (RowOk y.2 y.1))).isEmpty = rowsB ws rs := by
  have h : ((ws.length : Nat) : Int) = ((rs.length : Nat) : Int) := by simpa using h
  unfold rowsB
  rw [decide_eq_true (by omega), Bool.true_and]
  generalize ws.zip rs = l
  induction l with
  | nil => rfl
  | cons p l ih =>
    by_cases hp : RowOk p.2 p.1
    · rw [List.filter_cons_of_neg (by simp [hp]), ih, List.all_cons, decide_eq_true hp, Bool.true_and]
    · rw [List.filter_cons_of_pos (by simp [hp]), List.all_cons, decide_eq_false hp, Bool.false_and]
      rfl
def setL (n : Int) (l : List Int) : Bool := decide (l ≠ []) && (decide (l.Pairwise (· < ·)) && (decide (0 ≤ at_ l 0) && decide (at_ l ((l.length : Int) - 1) < n)))
theorem set_ne {l : List Int} (h : (!true || decide (l = [])) = false) : 0 < l.length := by
  have h := of_decide_eq_false (show decide (l = []) = false from h)
  exact List.length_pos_iff.mpr h
def presL (rs : List (Int × List Int)) (as : List Int) : List Int := (iota rs.length).filter fun r => !decide (r ∈ as)
theorem kRs_len {K : PySem.W.Frag} {C : Addr} {S : List Addr} {H : Hp} {v : V} {l : List (Int × List Int)} (h : (kL (kR (K := K) (C := C))).rp S H v l) : ∀ x ∈ l, x.2.length ≤ 1000000 := fun x hx => by
  obtain ⟨_, t, v1, v2, _, _, _, r⟩ := kL_mem h x hx
  exact kT_len r
theorem presL_mem {rs : List (Int × List Int)} {as : List Int} {r : Int} : r ∈ presL rs as ↔ (0 ≤ r ∧ r < rs.length) ∧ r ∉ as := by
  unfold presL
  rw [List.mem_filter, iota_mem]
  simp
def lacksB (rs : List (Int × List Int)) (ws : List (List Int)) (l : List Int) (r : Int) : List Int := (at_ rs r).2.filter fun z => decide (z ∈ l) && !decide (z ∈ at_ ws r)
def outB (kw ws : List (List Int)) (l : List Int) (r : Int) : List Int := (at_ ws r).filter fun z => !decide (z ∈ l) && !decide (z ∈ at_ kw r)
def shutBad (rs : List (Int × List Int)) (kw ws : List (List Int)) (l : List Int) (r : Int) : Bool := !(lacksB rs ws l r).isEmpty && (decide (((at_ ws r).length : Int) < (at_ rs r).1) || !(outB kw ws l r).isEmpty)
def shutB (rs : List (Int × List Int)) (kw ws : List (List Int)) (as l : List Int) : Bool := (presL rs as).all fun r => !shutBad rs kw ws l r
theorem shut_yes {rs : List (Int × List Int)} {kw ws : List (List Int)} {as l : List Int} (h : ∀ x ∈ presL rs as, shutBad rs kw ws l x = false) : true = shutB rs kw ws as l := by
  unfold shutB
  rw [eq_comm, List.all_eq_true]
  intro x hx
  rw [h x hx]
  rfl
theorem shut_no {rs : List (Int × List Int)} {kw ws : List (List Int)} {as l : List Int} {i : Nat} {x : Int} (hx : (presL rs as)[i]? = some x) (h : shutBad rs kw ws l x = true) : false = shutB rs kw ws as l := by
  unfold shutB
  rw [eq_comm, Bool.eq_false_iff]
  intro h'
  have := List.all_eq_true.mp h' x (List.mem_of_getElem? hx)
  rw [h] at this
  cases this
end Ew
namespace Ew
open PySem PySem.Spec PyProof.Rows L2
theorem allT {α : Type} {l : List α} {i : Nat} {x : α} {p : α → Bool} (h : ∀ y ∈ l.take i, p y = false) (hx : l[i]? = some x) (hp : p x = false) : ∀ y ∈ l.take (i + 1), p y = false := by
  intro y hy
  rw [take_more hx] at hy
  rcases List.mem_append.mp hy with hy | hy
  · exact h y hy
  · rw [List.mem_singleton.mp hy]
    exact hp
/-- a kind as plain data -/
structure KPy {K : PySem.W.Frag} {C : Addr} {α : Type} [DecidableEq α] (k : Kd K C α) (n : Nat) where
  py : α → PyData
  dp : ∀ {S : List Addr} {H : Hp} {v : V} {x : α}, k.rp S H v x → Dp K H v (py x)
  lay : ∀ x, PyData.canLay0 (py x) = true
  dep : ∀ x, PyData.depth (py x) ≤ n
  eqv : ∀ x y, PyData.eqv (py x) (py y) = decide (x = y)
section
variable {K : PySem.W.Frag} {C : Addr} {α β γ : Type} {k : Kd K C α} {k1 : Kd K C β} {k2 : Kd K C γ} {n m o : Nat} {S : List Addr} {H : Hp} {σ : L2.St} {te ta tb : TE} {x y : α}
def pI : KPy (kI (K := K) (C := C)) 0 := ⟨PyData.int, fun {S H v x} h => by cases (show v = .int x from h); exact .int x, fun _ => rfl, fun _ => Nat.le_refl _, eqv_int⟩
def pB : KPy (kB (K := K) (C := C)) 0 := ⟨PyData.bool, fun {S H v x} h => by cases (show v = .bl x from h); exact .bl x, fun _ => rfl, fun _ => Nat.le_refl _, fun x y => by
  show (x == y) = decide (x = y)
  cases x <;> cases y <;> rfl⟩
/-- None or an int -/
def pOI : KPy (kO (kI (K := K) (C := C))) 0 := ⟨fun x => match x with
    | none => .none
    | some i => .int i, fun {S H v x} h => by
      cases x with
      | none => cases (show v = .non from h); exact .non
      | some i => cases (show v = .int i from h); exact .int i, fun x => by cases x <;> rfl, fun x => by cases x <;> exact Nat.le_refl _, fun x y => by
      cases x with
      | none => cases y <;> rfl
      | some i =>
        cases y with
        | none => rfl
        | some j =>
          show PyData.eqv (.int i) (.int j) = _
          rw [eqv_int]
          simp⟩
theorem dpAll {R : V → α → Prop} {g : α → PyData} (h : ∀ v a, R v a → Dp K H v (g a)) : ∀ {vs : List V} {l : List α}, Paired R vs l → DpAll K H vs (l.map g)
  | _, _, .nil => .nil
  | _, _, .cons r t => .cons (h _ _ r) (dpAll h t)
def pT [DecidableEq α] (p : KPy k n) : KPy (kT k) (n + 1) := ⟨fun l => .tuple (l.map p.py), fun {S H v x} h => by
  obtain ⟨a, vs, rfl, h1, h2, _⟩ := h
  exact .tup h1 (dpAll (fun _ _ r => p.dp r) h2), fun l => layAll_map p.py p.lay l, fun l => Nat.succ_le_succ (depAll_map p.py p.dep l), fun x y => eqvAll_inj p.py p.eqv x y⟩
def pL [DecidableEq α] (p : KPy k n) : KPy (kL k) (n + 1) := ⟨fun l => .list (l.map p.py), fun {S H v x} h => by
  obtain ⟨a, vs, rfl, _, h1, h2, _⟩ := h
  exact .lst (.inl (.inl h1)) (dpAll (fun _ _ r => p.dp r) h2), fun l => layAll_map p.py p.lay l, fun l => Nat.succ_le_succ (depAll_map p.py p.dep l), fun x y => eqvAll_inj p.py p.eqv x y⟩
def pP [DecidableEq α] [DecidableEq β] (p : KPy k n) (q : KPy k1 m) : KPy (kP k k1) (n + m + 1) := ⟨fun z => .tuple [p.py z.1, q.py z.2], fun {S H v x} h => by
  obtain ⟨t, v1, v2, rfl, h1, h2, h3⟩ := h
  exact .tup h1 (.cons (p.dp h2) (.cons (q.dp h3) .nil)), fun z => by
    show (PyData.canLay0 (p.py z.1) && (PyData.canLay0 (q.py z.2) && true)) = true
    rw [p.lay, q.lay]
    rfl, fun z => by
    show max (PyData.depth (p.py z.1)) (max (PyData.depth (q.py z.2)) 0) + 1 ≤ _
    have := p.dep z.1
    have := q.dep z.2
    omega, fun x y => by
    show (PyData.eqv (p.py x.1) (p.py y.1) && (PyData.eqv (q.py x.2) (q.py y.2) && true)) = _
    rw [p.eqv, q.eqv]
    obtain ⟨a, b⟩ := x
    obtain ⟨c, d⟩ := y
    by_cases h1 : a = c <;> by_cases h2 : b = d <;> simp [h1, h2]⟩
def p3 [DecidableEq α] [DecidableEq β] [DecidableEq γ] (p : KPy k n) (q : KPy k1 m) (r : KPy k2 o) : KPy (k3 k k1 k2) (n + m + o + 1) := ⟨fun z => .tuple [p.py z.1, q.py z.2.1, r.py z.2.2], fun {S H v x} h => by
  obtain ⟨t, v1, v2, v3, rfl, h1, h2, h3, h4⟩ := h
  exact .tup h1 (.cons (p.dp h2) (.cons (q.dp h3) (.cons (r.dp h4) .nil))), fun z => by
    show (PyData.canLay0 (p.py z.1) && (PyData.canLay0 (q.py z.2.1) && (PyData.canLay0 (r.py z.2.2) && true))) = true
    rw [p.lay, q.lay, r.lay]
    rfl, fun z => by
    show max (PyData.depth (p.py z.1)) (max (PyData.depth (q.py z.2.1)) (max (PyData.depth (r.py z.2.2)) 0)) + 1 ≤ _
    have := p.dep z.1
    have := q.dep z.2.1
    have := r.dep z.2.2
    omega, fun x y => by
    show (PyData.eqv (p.py x.1) (p.py y.1) && (PyData.eqv (q.py x.2.1) (q.py y.2.1) && (PyData.eqv (r.py x.2.2) (r.py y.2.2) && true))) = _
    rw [p.eqv, q.eqv, r.eqv]
    obtain ⟨a, b, e⟩ := x
    obtain ⟨c, d, f⟩ := y
    by_cases h1 : a = c <;> by_cases h2 : b = d <;> by_cases h3 : e = f <;> simp [h1, h2, h3]⟩
def pW [DecidableEq α] [DecidableEq β] {a b : Str} (p : KPy k n) (q : KPy k1 m) (ha : PyData.canLay0 (.str a) = true) (hb : PyData.canLay0 (.str b) = true) (hab : a ≠ b) : KPy (kW a b k k1) (n + m + 1) := ⟨fun z => match z with
    | .inl y => .tuple [.str a, p.py y]
    | .inr y => .tuple [.str b, q.py y], fun {S H v x} h => by
      obtain ⟨t, w, rfl, h⟩ := h
      cases x with
      | inl y => exact .tup h.1 (.cons (.str a) (.cons (p.dp h.2) .nil))
      | inr y => exact .tup h.1 (.cons (.str b) (.cons (q.dp h.2) .nil)), fun z => by
      cases z with
      | inl y =>
        show (PyData.canLay0 (.str a) && (PyData.canLay0 (p.py y) && true)) = true
        rw [ha, p.lay]
        rfl
      | inr y =>
        show (PyData.canLay0 (.str b) && (PyData.canLay0 (q.py y) && true)) = true
        rw [hb, q.lay]
        rfl, fun z => by
      cases z with
      | inl y =>
        show max 0 (max (PyData.depth (p.py y)) 0) + 1 ≤ _
        have := p.dep y
        omega
      | inr y =>
        show max 0 (max (PyData.depth (q.py y)) 0) + 1 ≤ _
        have := q.dep y
        omega, fun x y => by
      have hba : b ≠ a := Ne.symm hab
      cases x with
      | inl x =>
        cases y with
        | inl y =>
          show ((a == a) && (PyData.eqv (p.py x) (p.py y) && true)) = _
          rw [p.eqv]
          simp
        | inr y =>
          show ((a == b) && (PyData.eqv (p.py x) (q.py y) && true)) = _
          simp [hab]
      | inr x =>
        cases y with
        | inl y =>
          show ((b == a) && (PyData.eqv (q.py x) (p.py y) && true)) = _
          simp [hba]
        | inr y =>
          show ((b == b) && (PyData.eqv (q.py x) (q.py y) && true)) = _
          rw [q.eqv]
          simp⟩
/-- (word, y) -/
theorem ev_tWl {a b : Str} {y : α} (h : Ev k S H ta σ y) : Ev (kW a b k k1) S H (tTup (tCons (tC (.str a)) (tCons ta tNil))) σ (.inl y) := fun H1 s Q q =>
  h H1 s _ fun v H2 s2 r => ⟨szL (by simp), fun p hn => q _ _ (s2.trans (sameU hn)) ⟨p, v, rfl, .inl (.inl upd_same), k.same (sameU hn) r⟩⟩
theorem ev_tWr {a b : Str} {y : β} (h : Ev k1 S H ta σ y) : Ev (kW a b k k1) S H (tTup (tCons (tC (.str b)) (tCons ta tNil))) σ (.inr y) := fun H1 s Q q =>
  h H1 s _ fun v H2 s2 r => ⟨szL (by simp), fun p hn => q _ _ (s2.trans (sameU hn)) ⟨p, v, rfl, .inl (.inl upd_same), k1.same (sameU hn) r⟩⟩
theorem KPy.sh [DecidableEq α] (p : KPy k n) (h : n ≤ 64) (x : α) : SeqAt.shaped (p.py x) = true := shp (p.lay x) (p.dep x) h
theorem ev_eqD [DecidableEq α] (p : KPy k n) (ha : Ev k S H ta σ x) (hb : Ev k S H tb σ y) (hn : n ≤ 64 := by decide) : Ev (K := K) (C := C) kB S H (tOp (rEqD K) ta tb) σ (decide (x = y)) :=
  ev_op2 ha hb fun v w H1 _ e1 e2 Q q => ⟨_, _, p.dp e1, p.dp e2, p.sh hn x, p.sh hn y, q _ H1 (Same.refl _) (by rw [p.eqv]; rfl)⟩
theorem ev_neD [DecidableEq α] (p : KPy k n) (ha : Ev k S H ta σ x) (hb : Ev k S H tb σ y) (hn : n ≤ 64 := by decide) : Ev (K := K) (C := C) kB S H (tOp (rNeD K) ta tb) σ (!decide (x = y)) :=
  ev_op2 ha hb fun v w H1 _ e1 e2 Q q => ⟨_, _, p.dp e1, p.dp e2, p.sh hn x, p.sh hn y, q _ H1 (Same.refl _) (by rw [p.eqv]; rfl)⟩
theorem ev_neNil {l : List α} (ha : Ev (kL k) S H ta σ l) (fr : Fr C S H) : Ev (K := K) (C := C) kB S H (tOp (rNeNil K true) ta (tLst tNil)) σ (!l.isEmpty) :=
  ev_op2 ha (EvN.ev (evn_l0 (k := k) fr)) fun v w H1 _ e1 e2 Q q => by
    obtain ⟨a, vs, rfl, _, h1, p, _⟩ := e1
    obtain ⟨b, us, rfl, _, h2, p2, _⟩ := e2
    cases p2
    refine ⟨a, b, vs, rfl, rfl, .inl (.inl h1), .inl (.inl h2), ?_⟩
    rw [if_pos rfl]
    exact q _ H1 (Same.refl _) (by cases p <;> rfl)
theorem ev_eqNil {l : List α} (ha : Ev (kL k) S H ta σ l) (fr : Fr C S H) : Ev (K := K) (C := C) kB S H (tOp (rNeNil K false) ta (tLst tNil)) σ l.isEmpty :=
  ev_op2 ha (EvN.ev (evn_l0 (k := k) fr)) fun v w H1 _ e1 e2 Q q => by
    obtain ⟨a, vs, rfl, _, h1, p, _⟩ := e1
    obtain ⟨b, us, rfl, _, h2, p2, _⟩ := e2
    cases p2
    refine ⟨a, b, vs, rfl, rfl, .inl (.inl h1), .inl (.inl h2), ?_⟩
    rw [if_neg Bool.false_ne_true]
    exact q _ H1 (Same.refl _) (by cases p <;> rfl)
/-- list(t) == sorted(set(t)) -/
theorem ev_asc {w : World} {l : List Int} (h : Ev (K := K) (C := C) (kT kI) S H te σ l) (h' : Ev (K := K) (C := C) (kT kI) S H tb σ l) (hl : l.length < 64) : Ev (K := K) (C := C) kB S H (tOp (rEqD K) (tCB (rLOf K) (tCons te tNil)) (tCB (rSortedSet w) (tCons (tCB (rSetOfI K w) (tCons tb tNil)) tNil))) σ (decide (l.Pairwise (· < ·))) := fun H1 s Q q => by
  refine h H1 s _ fun v H2 s2 r => ?_
  obtain ⟨a, rfl, h1, _⟩ := kT_ints r
  refine ⟨a, _, rfl, .inr h1, fun c nc => ?_⟩
  refine h' _ (s.trans (s2.trans (sameU nc))) _ fun v H3 s3 r3 => ?_
  obtain ⟨a', rfl, h3, _⟩ := kT_ints r3
  refine ⟨a', l, rfl, h3, by omega, fun d cn nd hcn => ?_⟩
  refine ⟨d, _, cn, rfl, upd_same, by omega, fun ns p hp hm hl2 np => ?_⟩
  have e : decide (l = ns) = decide (l.Pairwise (· < ·)) := sorted_self hp fun j => by rw [hm]; simp
  have hc : (upd (upd H3 d (SetO w d (fun j => decide (j ∈ l)) cn)) p (.lst (ns.map V.int))) c = some (.lst (l.map V.int)) := sameU np _ _ (sameU nd _ _ (s3 _ _ upd_same))
  refine ⟨_, _, dp_dI (.inl (.inl hc)), dp_dI (.inl (.inl upd_same)), shp_dI _, shp_dI _, ?_⟩
  rw [eqv_dI, e]
  exact q _ _ (s2.trans ((sameU nc).trans (s3.trans ((sameU nd).trans (sameU np))))) rfl
theorem ev_neg {i : Int} (h : Ev (K := K) (C := C) kI S H te σ i) : Ev (K := K) (C := C) kI S H (tUn (rU fun i => .int (-i)) te) σ (-i) := fun H1 s Q q =>
  h H1 s _ fun v H2 s2 r => ⟨i, r, q _ H2 s2 rfl⟩
/-- t[-1] -/
theorem ev_lastT [Inhabited α] {l : List α} (ha : Ev (kT k) S H ta σ l) (hc : 0 < l.length) : Ev k S H (tOp (rIxT K) ta (tUn (rU fun i => .int (-i)) (tC (.int 1)))) σ (at_ l ((l.length : Int) - 1)) :=
  ev_op2 ha (ev_neg ev_int) fun v w H1 _ e1 e2 Q q => by
    obtain ⟨a, vs, rfl, h, p, _⟩ := e1
    have hl := pLen p
    obtain ⟨u, hu, r⟩ := atI_at (i := (l.length : Int) - 1) p (by omega)
    refine ⟨a, vs, -1, u, rfl, e2, h, ?_, q _ H1 (Same.refl _) r⟩
    have e : atI vs (-1) = atI vs ((l.length : Int) - 1) := by
      unfold atI ixN
      rw [if_neg (by omega), if_pos (by omega), if_pos (by omega), if_pos (by omega)]
      congr 1
      show some _ = some _
      congr 1
      omega
    rw [e]
    exact hu
theorem gt2 {z : α × β} {v : V} {σ : L2.St} {i j : Nat} {Q : L2.St → Hp → Prop} (hv : (kP k k1).rp S H v z) (q : ∀ v1 v2, k.rp S H v1 z.1 → k1.rp S H v2 z.2 → Q ((σ.set i (some v1)).set j (some v2)) H) : gTup K 2 (gCons (gName i) (gCons (gName j) gNil)) v σ H Q := by
  obtain ⟨t, v1, v2, rfl, hT, r1, r2⟩ := hv
  exact ⟨t, _, rfl, hT, rfl, v1, _, rfl, v2, _, rfl, rfl, q v1 v2 r1 r2⟩
theorem gt3 {z : α × β × γ} {v : V} {σ : L2.St} {i j m : Nat} {Q : L2.St → Hp → Prop} (hv : (k3 k k1 k2).rp S H v z) (q : ∀ v1 v2 v3, k.rp S H v1 z.1 → k1.rp S H v2 z.2.1 → k2.rp S H v3 z.2.2 → Q (((σ.set i (some v1)).set j (some v2)).set m (some v3)) H) : gTup K 3 (gCons (gName i) (gCons (gName j) (gCons (gName m) gNil))) v σ H Q := by
  obtain ⟨t, v1, v2, v3, rfl, hT, r1, r2, r3⟩ := hv
  exact ⟨t, _, rfl, hT, rfl, v1, _, rfl, v2, _, rfl, v3, _, rfl, rfl, q v1 v2 v3 r1 r2 r3⟩
end
end Ew
namespace Ew
open PySem PySem.Spec PyProof.Rows L2
/-! ### the search is right -/
section
variable {b : Bk} {kw ws : List (List Int)} {as : List Int} {z : Int}
def rdsOf (ch : List Link) : List Int := ch.map (·.1)
inductive Pth (b : Bk) (kw ws : List (List Int)) (as : List Int) (z : Int) : List Link → Int → Prop
  | nil : Pth b kw ws as z [] z
  | snoc {ch : List Link} {t r g : Int} : Pth b kw ws as z ch t → r ∈ takersB b ws as t → g ∈ looseB kw ws r → r ∉ rdsOf ch → Pth b kw ws as z (ch ++ [(r, t, some g)]) g
theorem Pth.chain {ch : List Link} {t : Int} (h : Pth b kw ws as z ch t) : ∀ tail, chainB b kw ws as (ch ++ tail) (some z) [] = chainB b kw ws as tail (some t) (rdsOf ch) := by
  induction h with
  | nil => intro tail; rfl
  | @snoc ch t r g _ h1 h2 h3 ih =>
    intro tail
    rw [List.append_assoc]
    show chainB b kw ws as (ch ++ ((r, t, some g) :: tail)) (some z) [] = _
    rw [ih, chainB]
    have e : linkB b kw ws as (some t) (r, t, some g) = true := by
      unfold linkB giveB
      simp only [decide_eq_true_eq, Bool.and_eq_true]
      exact ⟨trivial, h1, h2⟩
    rw [e, decide_eq_false h3, if_neg (by simp)]
    unfold rdsOf
    rw [List.map_append]
    rfl
theorem Pth.ends {ch : List Link} {t r : Int} (h : Pth b kw ws as z ch t) (h1 : r ∈ takersB b ws as t) (h2 : freeB b ws r = true) (h3 : r ∉ rdsOf ch) : chainB b kw ws as (ch ++ [(r, t, none)]) (some z) [] = true := by
  rw [h.chain, chainB]
  have e : linkB b kw ws as (some t) (r, t, none) = true := by
    unfold linkB giveB
    simp only [decide_eq_true_eq, Bool.and_eq_true]
    exact ⟨trivial, h1, h2⟩
  rw [e, decide_eq_false h3, if_neg (by simp)]
  rfl
def Done (kw ws : List (List Int)) (c : List (Int × List Link)) (r : Int) : Prop := ∀ g ∈ looseB kw ws r, g ∈ keysOf c
/-- all readers within chains are done, but perhaps one -/
structure Sr (b : Bk) (kw ws : List (List Int)) (as : List Int) (z : Int) (c : List (Int × List Link)) : Prop where
  pth : ∀ p ∈ c, Pth b kw ws as z p.2 p.1
  don : ∀ p ∈ c, ∀ r ∈ rdsOf p.2, Done kw ws c r ∧ freeB b ws r = false
  here : z ∈ keysOf c
theorem done_snoc {c : List (Int × List Link)} {r : Int} (h : Done kw ws c r) (p : Int × List Link) : Done kw ws (c ++ [p]) r := fun g hg => by
  rw [keys_snoc]
  exact List.mem_append.mpr (.inl (h g hg))
theorem getC_snoc {c : List (Int × List Link)} {t : Int} (h : t ∈ keysOf c) (p : Int × List Link) : getC (c ++ [p]) t = getC c t := by
  unfold getC
  rw [List.find?_append]
  cases q : c.find? fun p => decide (p.1 = t) with
  | some x => rfl
  | none =>
    unfold keysOf at h
    obtain ⟨y, hy, e⟩ := List.mem_map.mp h
    have := List.find?_eq_none.mp q y hy
    simp [e] at this
theorem gives_done {r t : Int} : ∀ {gs : List Int} {c w}, (∀ g ∈ gs, g ∈ keysOf c) → givesB r t gs (c, w) = (c, w)
  | [], _, _, _ => rfl
  | g :: gs, c, w, h => by
    rw [givesB, if_pos (h g (by simp))]
    exact gives_done fun x hx => h x (by simp [hx])
/-- while one reader's works are given -/
structure Sg (b : Bk) (kw ws : List (List Int)) (as : List Int) (z : Int) (t r : Int) (c : List (Int × List Link)) : Prop where
  pth : ∀ p ∈ c, Pth b kw ws as z p.2 p.1
  don : ∀ p ∈ c, ∀ r' ∈ rdsOf p.2, (Done kw ws c r' ∨ r' = r) ∧ freeB b ws r' = false
  here : z ∈ keysOf c
  tk : t ∈ keysOf c
  nr : r ∉ rdsOf (getC c t)
theorem gives_sr {r t : Int} (hr : r ∈ takersB b ws as t) (hf : freeB b ws r = false) : ∀ {gs : List Int} {c w}, (∀ g ∈ gs, g ∈ looseB kw ws r) → Sg b kw ws as z t r c →
    Sg b kw ws as z t r (givesB r t gs (c, w)).1 ∧ (∀ g ∈ gs, g ∈ keysOf (givesB r t gs (c, w)).1) ∧ (∀ g ∈ keysOf c, g ∈ keysOf (givesB r t gs (c, w)).1) ∧
    (∀ g ∈ keysOf (givesB r t gs (c, w)).1, g ∈ keysOf c ∨ g ∈ (givesB r t gs (c, w)).2) ∧ ∀ g ∈ w, g ∈ (givesB r t gs (c, w)).2
  | [], c, w, _, h => ⟨h, fun _ m => (nomatch m), fun _ m => m, fun _ m => .inl m, fun _ m => m⟩
  | g :: gs, c, w, hg, h => by
    rw [givesB]
    by_cases hm : g ∈ keysOf c
    · rw [if_pos hm]
      obtain ⟨a1, a2, a3, a4, a5⟩ := gives_sr hr hf (gs := gs) (c := c) (w := w) (fun x hx => hg x (by simp [hx])) h
      exact ⟨a1, fun x hx => by
        rcases List.mem_cons.mp hx with rfl | hx
        · exact a3 _ hm
        · exact a2 x hx, a3, a4, a5⟩
    · rw [if_neg hm]
      have hgt : t ∈ keysOf (c ++ [(g, getC c t ++ [(r, t, some g)])]) := by
        rw [keys_snoc]
        exact List.mem_append.mpr (.inl h.tk)
      obtain ⟨q, hq, e1, e2⟩ := getC_mem h.tk
      have hp : Pth b kw ws as z (getC c t ++ [(r, t, some g)]) g := by
        have := h.pth q hq
        rw [e1, e2] at this
        exact this.snoc hr (hg g (by simp)) h.nr
      have h' : Sg b kw ws as z t r (c ++ [(g, getC c t ++ [(r, t, some g)])]) := by
        refine ⟨fun p hp' => ?_, fun p hp' r' hr' => ?_, ?_, hgt, by rw [getC_snoc h.tk]; exact h.nr⟩
        · rcases List.mem_append.mp hp' with hp' | hp'
          · exact h.pth p hp'
          · rw [List.mem_singleton.mp hp']
            exact hp
        · rcases List.mem_append.mp hp' with hp' | hp'
          · obtain ⟨d, f⟩ := h.don p hp' r' hr'
            exact ⟨d.imp (fun d => done_snoc d _) id, f⟩
          · rw [List.mem_singleton.mp hp'] at hr'
            have hr'' : r' ∈ rdsOf (getC c t) ++ [r] := by
              unfold rdsOf at *
              rw [List.map_append] at hr'
              exact hr'
            rcases List.mem_append.mp hr'' with m | m
            · rw [← e2] at m
              obtain ⟨d, f⟩ := h.don q hq r' m
              exact ⟨d.imp (fun d => done_snoc d _) id, f⟩
            · rw [List.mem_singleton.mp m]
              exact ⟨.inr rfl, hf⟩
        · rw [keys_snoc]
          exact List.mem_append.mpr (.inl h.here)
      obtain ⟨a1, a2, a3, a4, a5⟩ := gives_sr hr hf (gs := gs) (w := w ++ [g]) (fun x hx => hg x (by simp [hx])) h'
      have hgk : g ∈ keysOf (c ++ [(g, getC c t ++ [(r, t, some g)])]) := by
        rw [keys_snoc]
        simp
      refine ⟨a1, fun x hx => ?_, fun x hx => a3 x (by rw [keys_snoc]; exact List.mem_append.mpr (.inl hx)), fun x hx => ?_, fun x hx => a5 x (List.mem_append.mpr (.inl hx))⟩
      · rcases List.mem_cons.mp hx with rfl | hx
        · exact a3 _ hgk
        · exact a2 x hx
      · rcases a4 x hx with h1 | h1
        · rw [keys_snoc] at h1
          rcases List.mem_append.mp h1 with h1 | h1
          · exact .inl h1
          · rw [List.mem_singleton.mp h1]
            exact .inr (a5 g (by simp))
        · exact .inr h1
theorem getC_don {c : List (Int × List Link)} (h : Sr b kw ws as z c) {t r : Int} (ht : t ∈ keysOf c) (hr : r ∈ rdsOf (getC c t)) : Done kw ws c r ∧ freeB b ws r = false := by
  obtain ⟨q, hq, _, e⟩ := getC_mem ht
  rw [← e] at hr
  exact h.don q hq r hr
theorem getC_pth {c : List (Int × List Link)} (h : Sr b kw ws as z c) {t : Int} (ht : t ∈ keysOf c) : Pth b kw ws as z (getC c t) t := by
  obtain ⟨q, hq, e1, e2⟩ := getC_mem ht
  have := h.pth q hq
  rwa [e1, e2] at this
/-- all readers of one work -/
theorem read_sr {t : Int} : ∀ {rs : List Int} {c w}, (∀ r ∈ rs, r ∈ takersB b ws as t) → Sr b kw ws as z c → t ∈ keysOf c →
    match readB b kw ws t rs (c, w) with
    | .inl ch => chainB b kw ws as ch (some z) [] = true
    | .inr (c', w') => Sr b kw ws as z c' ∧ (∀ r ∈ rs, freeB b ws r = false ∧ Done kw ws c' r) ∧ (∀ g ∈ keysOf c, g ∈ keysOf c') ∧ (∀ g ∈ keysOf c', g ∈ keysOf c ∨ g ∈ w') ∧ ∀ g ∈ w, g ∈ w'
  | [], c, w, _, h, _ => ⟨h, fun _ m => (nomatch m), fun _ m => m, fun _ m => .inl m, fun _ m => m⟩
  | r :: rs, c, w, hr, h, ht => by
    rw [readB]
    have hr1 := hr r (by simp)
    by_cases hf : freeB b ws r = true
    · rw [if_pos hf]
      refine (getC_pth h ht).ends hr1 hf fun m => ?_
      have := (getC_don h ht m).2
      rw [hf] at this
      cases this
    · rw [if_neg hf]
      have hf : freeB b ws r = false := Bool.eq_false_iff.mpr hf
      have key : Sr b kw ws as z (givesB r t (looseB kw ws r) (c, w)).1 ∧ Done kw ws (givesB r t (looseB kw ws r) (c, w)).1 r ∧ (∀ g ∈ keysOf c, g ∈ keysOf (givesB r t (looseB kw ws r) (c, w)).1) ∧
          (∀ g ∈ keysOf (givesB r t (looseB kw ws r) (c, w)).1, g ∈ keysOf c ∨ g ∈ (givesB r t (looseB kw ws r) (c, w)).2) ∧ ∀ g ∈ w, g ∈ (givesB r t (looseB kw ws r) (c, w)).2 := by
        by_cases hd : Done kw ws c r
        · rw [gives_done hd]
          exact ⟨h, hd, fun _ m => m, fun _ m => .inl m, fun _ m => m⟩
        · have nr : r ∉ rdsOf (getC c t) := fun m => hd (getC_don h ht m).1
          have hg : Sg b kw ws as z t r c := ⟨h.pth, fun p hp r' hr' => let ⟨d, f⟩ := h.don p hp r' hr'; ⟨.inl d, f⟩, h.here, ht, nr⟩
          obtain ⟨a1, a2, a3, a4, a5⟩ := gives_sr hr1 hf (gs := looseB kw ws r) (w := w) (fun _ m => m) hg
          refine ⟨⟨a1.pth, fun p hp r' hr' => ?_, a1.here⟩, a2, a3, a4, a5⟩
          obtain ⟨d, f⟩ := a1.don p hp r' hr'
          refine ⟨?_, f⟩
          rcases d with d | rfl
          · exact d
          · exact a2
      generalize givesB r t (looseB kw ws r) (c, w) = s at *
      obtain ⟨c1, w1⟩ := s
      obtain ⟨k1, k2, k3, k4, k5⟩ := key
      have ih := read_sr (t := t) (rs := rs) (c := c1) (w := w1) (fun x hx => hr x (by simp [hx])) k1 (k3 t ht)
      generalize readB b kw ws t rs (c1, w1) = res at *
      cases res with
      | inl ch => exact ih
      | inr s =>
        obtain ⟨c2, w2⟩ := s
        obtain ⟨i1, i2, i3, i4, i5⟩ := ih
        refine ⟨i1, fun x hx => ?_, fun g hg => i3 g (k3 g hg), fun g hg => ?_, fun g hg => i5 g (k5 g hg)⟩
        · rcases List.mem_cons.mp hx with rfl | hx
          · exact ⟨hf, fun g hg => i3 g (k2 g hg)⟩
          · exact i2 x hx
        · rcases i4 g hg with h1 | h1
          · rcases k4 g h1 with h1 | h1
            · exact .inl h1
            · exact .inr (i5 g h1)
          · exact .inr h1
/-- what is not waiting is done -/
def Proc (b : Bk) (kw ws : List (List Int)) (as : List Int) (c : List (Int × List Link)) (w : List Int) : Prop := ∀ t ∈ keysOf c, t ∉ w → ∀ r ∈ takersB b ws as t, freeB b ws r = false ∧ Done kw ws c r
theorem stepN_sr (hw : RowsIn b ws) : ∀ {n : Nat} {c w}, SOk b.ds.length c w → mu b.ds.length c w < n → Sr b kw ws as z c → Proc b kw ws as c w →
    match stepN b kw ws as n c w with
    | .inl ch => chainB b kw ws as ch (some z) [] = true
    | .inr s => ∃ c', s = srt (keysOf c') ∧ SOk b.ds.length c' [] ∧ Sr b kw ws as z c' ∧ Proc b kw ws as c' []
  | 0, _, _, _, h, _, _ => absurd h (Nat.not_lt_zero _)
  | n + 1, c, [], ok, _, h, p => ⟨c, rfl, ok, h, p⟩
  | n + 1, c, t :: w, ok, hm, h, p => by
    have ht := ok.sub t (by simp)
    have ok' : SOk b.ds.length c w := ⟨ok.nd, ok.rg, fun g hg => ok.sub g (by simp [hg]), ok.len⟩
    have hmu : mu b.ds.length c w < n := by
      unfold mu at *
      rw [List.length_cons] at hm
      omega
    have key := read_sr (t := t) (rs := takersB b ws as t) (c := c) (w := w) (fun _ m => m) h ht
    have key2 : ∀ c' w', readB b kw ws t (takersB b ws as t) (c, w) = .inr (c', w') → SOk b.ds.length c' w' ∧ mu b.ds.length c' w' = mu b.ds.length c w := fun c' w' e =>
      read_ok (fun w hw' => hw.rg w hw') ok' ht (fun r hr => (IsRd.of hw.len (List.mem_filter.mp hr).1).1) e
    rw [stepN]
    generalize readB b kw ws t (takersB b ws as t) (c, w) = res at *
    cases res with
    | inl ch => exact key
    | inr s =>
      obtain ⟨c', w'⟩ := s
      obtain ⟨i1, i2, i3, i4, i5⟩ := key
      obtain ⟨j1, j2⟩ := key2 c' w' rfl
      refine stepN_sr hw j1 (by omega) i1 fun t' ht' hn r hr => ?_
      rcases i4 t' ht' with h1 | h1
      · by_cases e : t' = t
        · subst e
          exact i2 r hr
        · have : t' ∉ t :: w := fun m => by
            rcases List.mem_cons.mp m with m | m
            · exact e m
            · exact hn (i5 t' m)
          obtain ⟨f, d⟩ := p t' h1 this r hr
          exact ⟨f, fun g hg => i3 g (d g hg)⟩
      · exact absurd h1 hn
theorem step_right (hw : RowsIn b ws) (n6 : b.ds.length ≤ 6) (z0 : 0 ≤ z ∧ z < b.ds.length) : match stepB b kw ws as z with
    | .inl ch => chainB b kw ws as ch (some z) [] = true
    | .inr s => ∃ c', s = srt (keysOf c') ∧ SOk b.ds.length c' [] ∧ Sr b kw ws as z c' ∧ Proc b kw ws as c' [] := by
  unfold stepB
  refine stepN_sr hw ⟨by simp [keysOf], fun g hg => by simp [keysOf] at hg; omega, fun g hg => by simpa [keysOf] using hg, fun q hq => by simp at hq; rw [hq]; simp⟩ (by unfold mu; simp; omega)
    ⟨fun p hp => by simp at hp; rw [hp]; exact .nil, fun p hp r hr => by simp at hp; rw [hp] at hr; simp [rdsOf] at hr, by simp [keysOf]⟩ fun t ht hn => ?_
  exact absurd (by simpa [keysOf] using ht) hn
end
end Ew
namespace Ew
open PySem PySem.Spec PyProof.Rows L2
theorem srt_mem {l : List Int} {x : Int} : x ∈ srt l ↔ x ∈ l := (srt_perm l).mem_iff
theorem srt_lt {l : List Int} (h : l.Nodup) : (srt l).Pairwise (· < ·) := by
  have h1 := srt_up l
  have h2 : (srt l).Nodup := (srt_perm l).nodup_iff.mpr h
  exact (h1.and h2).imp fun ⟨a, b⟩ => by omega
section
variable {b : Bk} {kw ws : List (List Int)} {as : List Int} {z : Int}
theorem closed_all {c : List (Int × List Link)} (hw : RowsIn b ws) (ok : SOk b.ds.length c []) (h : Sr b kw ws as z c) (p : Proc b kw ws as c []) :
    setL b.ds.length (srt (keysOf c)) = true ∧ z ∈ srt (keysOf c) ∧ shutB b.rs kw ws as (srt (keysOf c)) = true ∧ closB b kw ws as (srt (keysOf c)) = true := by
  have hz : z ∈ srt (keysOf c) := srt_mem.mpr h.here
  have hlt := srt_lt ok.nd
  have hrg : ∀ x ∈ srt (keysOf c), 0 ≤ x ∧ x < (b.ds.length : Int) := fun x hx => ok.rg x (srt_mem.mp hx)
  have hne : 0 < (srt (keysOf c)).length := List.length_pos_of_mem hz
  have hp : ∀ r, r ∈ presB b as → ∀ x ∈ srt (keysOf c), canB b ws r x = true → freeB b ws r = false ∧ Done kw ws c r := fun r hr x hx hc =>
    p x (srt_mem.mp hx) (by simp) r (List.mem_filter.mpr ⟨hr, hc⟩)
  refine ⟨?_, hz, ?_, ?_⟩
  · unfold setL
    rw [decide_eq_true (show srt (keysOf c) ≠ [] from fun e => by rw [e] at hne; exact absurd hne (by decide)), decide_eq_true hlt, decide_eq_true (hrg _ (at_mem ⟨by omega, by omega⟩)).1, decide_eq_true (hrg _ (at_mem ⟨by omega, by omega⟩)).2]
    rfl
  · unfold shutB
    rw [List.all_eq_true]
    intro r hr
    have hr' : r ∈ presB b as := hr
    have e : shutBad b.rs kw ws (srt (keysOf c)) r = false := by
      unfold shutBad
      cases hl : (lacksB b.rs ws (srt (keysOf c)) r) with
      | nil => rfl
      | cons x l =>
        have hx : x ∈ lacksB b.rs ws (srt (keysOf c)) r := by rw [hl]; simp
        unfold lacksB at hx
        obtain ⟨m1, m2⟩ := List.mem_filter.mp hx
        simp only [Bool.and_eq_true, decide_eq_true_eq, Bool.not_eq_true', decide_eq_false_iff_not] at m2
        obtain ⟨f, d⟩ := hp r hr' x m2.1 (by unfold canB; simp [m1, m2.2])
        have f' : decide (((at_ ws r).length : Int) < (at_ b.rs r).1) = false := f
        have o : outB kw ws (srt (keysOf c)) r = [] := by
          unfold outB
          refine List.filter_eq_nil_iff.mpr fun y hy hn => ?_
          simp only [Bool.and_eq_true, Bool.not_eq_true', decide_eq_false_iff_not] at hn
          exact hn.1 (srt_mem.mpr (d y (List.mem_filter.mpr ⟨hy, by simp [hn.2]⟩)))
        rw [f', o]
        rfl
    rw [e]
    rfl
  · unfold closB setB
    rw [show ascI b.ds.length (-1) (srt (keysOf c)) = true from ascI_iff.mpr ⟨hlt, fun x hx => by have := hrg x hx; omega⟩, decide_eq_true (show (0 : Int) < ((srt (keysOf c)).length : Nat) by omega), Bool.and_self, Bool.true_and, List.all_eq_true]
    intro r hr
    unfold barB
    by_cases ha : (!(srt (keysOf c)).any fun z => canB b ws r z) = true
    · rw [if_pos ha]
    · rw [if_neg ha]
      have ha : ((srt (keysOf c)).any fun z => canB b ws r z) = true := by simpa using ha
      obtain ⟨x, hx, hc⟩ := List.any_eq_true.mp ha
      obtain ⟨f, d⟩ := hp r hr x hx hc
      rw [f, if_neg Bool.false_ne_true, List.all_eq_true]
      intro y hy
      exact decide_eq_true (srt_mem.mpr (d y hy))
end
/-! ### the rows behind a chain -/
def cntW (ws : List (List Int)) (x : Int) : Int := ((ws.filter fun r => decide (x ∈ r)).length : Nat)
def one_ (p : Prop) [Decidable p] : Int := if p then 1 else 0
theorem cntW_cons (w : List Int) (ws : List (List Int)) (x : Int) : cntW (w :: ws) x = one_ (x ∈ w) + cntW ws x := by
  unfold cntW one_
  by_cases h : x ∈ w
  · rw [List.filter_cons_of_pos (by simp [h]), if_pos h, List.length_cons]
    omega
  · rw [List.filter_cons_of_neg (by simp [h]), if_neg h]
    omega
theorem cntW_set {w' : List Int} {x : Int} : ∀ {ws : List (List Int)} {i : Nat} {w : List Int}, ws[i]? = some w → cntW (ws.set i w') x = cntW ws x - one_ (x ∈ w) + one_ (x ∈ w')
  | [], _, _, h => by simp at h
  | v :: ws, 0, w, h => by
    cases (show v = w from Option.some.inj h)
    rw [List.set_cons_zero, cntW_cons, cntW_cons]
    omega
  | v :: ws, i + 1, w, h => by
    have ih := cntW_set (w' := w') (x := x) (ws := ws) (i := i) (w := w) h
    rw [List.set_cons_succ, cntW_cons, cntW_cons, ih]
    omega
def newRow (w : List Int) (l : Link) : List Int := srt ((w.filter fun o => !decide (some o = l.2.2)) ++ [l.2.1])
def walkB (ws : List (List Int)) : List Link → List (List Int) → List (List Int)
  | [], f => f
  | l :: ls, f => walkB ws ls (f.set l.1.toNat (newRow (at_ ws l.1) l))
theorem new_mem {w : List Int} {l : Link} {x : Int} : x ∈ newRow w l ↔ (x ∈ w ∧ some x ≠ l.2.2) ∨ x = l.2.1 := by
  unfold newRow
  rw [srt_mem, List.mem_append, List.mem_filter]
  simp
theorem walk_len {ws : List (List Int)} : ∀ {ls : List Link} {f : List (List Int)}, (walkB ws ls f).length = f.length
  | [], _ => rfl
  | l :: ls, f => by rw [walkB, walk_len, List.length_set]
theorem filter_ne_len {g : Int} : ∀ {w : List Int}, w.Nodup → g ∈ w → (w.filter fun o => !decide (some o = some g)).length + 1 = w.length
  | [], _, h => nomatch h
  | y :: w, nd, h => by
    have nd' := List.nodup_cons.mp nd
    by_cases e : y = g
    · subst e
      rw [List.filter_cons_of_neg (by simp), List.filter_eq_self.mpr fun x hx => by
        have : x ≠ y := fun e => nd'.1 (e ▸ hx)
        simp [this]]
      rfl
    · have hm : g ∈ w := by
        rcases List.mem_cons.mp h with h | h
        · exact absurd h.symm e
        · exact h
      rw [List.filter_cons_of_pos (by simp [e]), List.length_cons, List.length_cons, filter_ne_len nd'.2 hm]
section
variable {b : Bk} {kw ws : List (List Int)} {as : List Int}
theorem link_parts {z : Option Int} {l : Link} (h : linkB b kw ws as z l = true) : some l.2.1 = z ∧ (0 ≤ l.1 ∧ l.1 < b.rs.length) ∧ l.1 ∉ as ∧ l.2.1 ∈ (at_ b.rs l.1).2 ∧ l.2.1 ∉ at_ ws l.1 ∧ giveB b kw ws l.1 l.2.2 = true := by
  unfold linkB at h
  simp only [Bool.and_eq_true, decide_eq_true_eq] at h
  obtain ⟨h1, h2, h3⟩ := h
  obtain ⟨m1, m2⟩ := List.mem_filter.mp h2
  obtain ⟨p1, p2⟩ := presL_mem.mp (show l.1 ∈ presL b.rs as from m1)
  unfold canB at m2
  simp only [Bool.and_eq_true, decide_eq_true_eq, Bool.not_eq_true', decide_eq_false_iff_not] at m2
  exact ⟨h1, p1, p2, m2.1, m2.2, h3⟩
theorem new_ok {z : Option Int} {l : Link} (h : linkB b kw ws as z l = true) (ro : RowOk (at_ b.rs l.1) (at_ ws l.1)) : RowOk (at_ b.rs l.1) (newRow (at_ ws l.1) l) := by
  obtain ⟨_, _, _, p4, p5, p6⟩ := link_parts h
  have nd := nodup_asc ro.1
  have nd2 : (((at_ ws l.1).filter fun o => !decide (some o = l.2.2)) ++ [l.2.1]).Nodup := List.nodup_append.mpr ⟨nd.filter _, by simp, fun a ha c hc e => by
    rw [List.mem_singleton.mp hc] at e
    rw [e] at ha
    exact p5 (List.mem_filter.mp ha).1⟩
  refine ⟨srt_lt nd2, fun x hx => ?_, ?_⟩
  · rcases new_mem.mp hx with ⟨m, _⟩ | rfl
    · exact ro.2.1 x m
    · exact p4
  · unfold newRow
    rw [srt_len, List.length_append, List.length_singleton]
    cases hg : l.2.2 with
    | none =>
      rw [hg] at p6
      have p6 := of_decide_eq_true (show decide (((at_ ws l.1).length : Int) < (at_ b.rs l.1).1) = true from p6)
      have := List.length_filter_le (fun o => !decide (some o = (none : Option Int))) (at_ ws l.1)
      omega
    | some g =>
      rw [hg] at p6
      have p6 : g ∈ looseB kw ws l.1 := of_decide_eq_true p6
      have := filter_ne_len nd (List.mem_filter.mp p6).1
      rw [this]
      exact ro.2.2
/-- rows of readers -/
def RowsOk (b : Bk) (ws : List (List Int)) : Prop := ws.length = b.rs.length ∧ ∀ i : Int, 0 ≤ i ∧ i < ws.length → RowOk (at_ b.rs i) (at_ ws i)
theorem at_set {α : Type} [Inhabited α] {l : List α} {i j : Int} {x : α} (hi : 0 ≤ i ∧ i < l.length) (hj : 0 ≤ j) : at_ (l.set i.toNat x) j = if i = j then x else at_ l j := by
  unfold at_
  rw [List.getD_eq_getElem?_getD, List.getD_eq_getElem?_getD]
  by_cases e : i = j
  · subst e
    rw [if_pos rfl, List.getElem?_set_self (by omega)]
    rfl
  · rw [if_neg e, List.getElem?_set_ne (by omega)]
theorem chain_walk (r0 : RowsOk b ws) {z0 : Int} : ∀ {ls : List Link} {z : Option Int} {e : List Int} {f : List (List Int)}, chainB b kw ws as ls z e = true → RowsOk b f → (∀ i : Int, 0 ≤ i → i ∉ e → at_ f i = at_ ws i) →
    (∀ x : Int, cntW f x + one_ (some x = z) = cntW ws x + one_ (x = z0)) → RowsOk b (walkB ws ls f) ∧ ∀ x : Int, cntW (walkB ws ls f) x = cntW ws x + one_ (x = z0)
  | [], z, e, f, h, hf, _, hc => by
    have hz : z = none := by simpa [chainB] using h
    subst hz
    exact ⟨hf, fun x => by
      have h1 := hc x
      have h2 : one_ (some x = (none : Option Int)) = 0 := if_neg (by simp)
      show cntW f x = _
      omega⟩
  | l :: ls, z, e, f, h, hf, hs, hc => by
    rw [chainB] at h
    by_cases hb : (!linkB b kw ws as z l || decide (l.1 ∈ e)) = true
    · rw [if_pos hb] at h
      cases h
    · rw [if_neg hb] at h
      simp only [Bool.or_eq_true, Bool.not_eq_true', decide_eq_true_eq, not_or, Bool.not_eq_false] at hb
      obtain ⟨hl, he⟩ := hb
      obtain ⟨p1, p2, p3, p4, p5, p6⟩ := link_parts hl
      have hi : 0 ≤ l.1 ∧ l.1 < f.length := ⟨p2.1, by rw [hf.1]; exact p2.2⟩
      have hi0 : 0 ≤ l.1 ∧ l.1 < ws.length := ⟨p2.1, by rw [r0.1]; exact p2.2⟩
      have hno := new_ok hl (r0.2 l.1 hi0)
      have hrow : f[l.1.toNat]? = some (at_ ws l.1) := by rw [← hs l.1 p2.1 he]; exact at_get hi
      rw [walkB]
      refine chain_walk r0 h ⟨by rw [List.length_set]; exact hf.1, fun i hi' => ?_⟩ (fun i i0 hn => ?_) fun x => ?_
      · rw [List.length_set] at hi'
        rw [at_set hi hi'.1]
        by_cases e : l.1 = i
        · rw [if_pos e, ← e]
          exact hno
        · rw [if_neg e]
          exact hf.2 i hi'
      · rw [at_set hi i0, if_neg fun e => hn (by rw [← e]; simp)]
        exact hs i i0 fun m => hn (List.mem_append.mpr (.inl m))
      · rw [cntW_set hrow]
        have h1 := hc x
        have hz : one_ (some x = z) = one_ (x = l.2.1) := by
          unfold one_
          rw [← p1]
          by_cases e : x = l.2.1
          · rw [if_pos e, if_pos (by rw [e])]
          · rw [if_neg e, if_neg (by simpa using e)]
        rw [hz] at h1
        have h2 : one_ (x ∈ newRow (at_ ws l.1) l) + one_ (some x = l.2.2) = one_ (x ∈ at_ ws l.1) + one_ (x = l.2.1) := by
          have hg : some x = l.2.2 → x ∈ at_ ws l.1 := fun e => by
            rw [← e] at p6
            have p6 : x ∈ looseB kw ws l.1 := of_decide_eq_true p6
            exact (List.mem_filter.mp p6).1
          have hm := new_mem (w := at_ ws l.1) (l := l) (x := x)
          unfold one_
          by_cases e1 : x = l.2.1
          · have n1 : x ∉ at_ ws l.1 := by rw [e1]; exact p5
            have n2 : ¬ some x = l.2.2 := fun e => n1 (hg e)
            rw [if_pos (hm.mpr (.inr e1)), if_neg n2, if_neg n1, if_pos e1]
            rfl
          · by_cases e2 : some x = l.2.2
            · have m1 := hg e2
              have n1 : x ∉ newRow (at_ ws l.1) l := fun m => by
                rcases hm.mp m with ⟨_, h⟩ | h
                · exact h e2
                · exact e1 h
              rw [if_neg n1, if_pos e2, if_pos m1, if_neg e1]
              rfl
            · by_cases e3 : x ∈ at_ ws l.1
              · rw [if_pos (hm.mpr (.inl ⟨e3, e2⟩)), if_neg e2, if_pos e3, if_neg e1]
              · have n1 : x ∉ newRow (at_ ws l.1) l := fun m => by
                  rcases hm.mp m with ⟨h, _⟩ | h
                  · exact e3 h
                  · exact e1 h
                rw [if_neg n1, if_neg e2, if_neg e3, if_neg e1]
        omega
end
end Ew
namespace Ew
open PySem PySem.Spec PyProof.Rows L2
theorem kTI_any {K : PySem.W.Frag} {C : Addr} {S T : List Addr} {H : Hp} {v : V} {x : List Int} (h : (kT (kI (K := K) (C := C))).rp S H v x) : (kT (kI (K := K) (C := C))).rp T H v x := let ⟨a, e, q, b⟩ := kT_ints h; ⟨a, _, e, q, paired_ints _, b⟩
def timesE (ws : List (List Int)) (n : Int) : List Int := (iota n).map fun x => cntW ws x
/-- what a set demands -/
def wantL (ds l : List Int) : Int := (l.map fun z => at_ ds z).sum
def keptL (ds : List Int) (ws : List (List Int)) (as : List Int) : List Int := (ds.zip (timesE (((enum ws).filter fun p => !decide (p.1 ∈ as)).map fun p => p.2) (ds.length : Nat))).map fun p => if p.2 > p.1 then p.2 else p.1
end Ew
namespace Ew
open PySem PySem.Spec PyProof.Rows L2
/-! ### sets of works, short sets, extending -/
def setsF : Nat → List (List Int)
  | 0 => [[]]
  | k + 1 => setsF k ++ (setsF k).map fun s => s ++ [(k : Int)]
def allSets (n : Nat) : List (List Int) := (setsF n).drop 1
def shortB (b : Bk) (ws : List (List Int)) (as l : List Int) : Bool := decide (((presB b as).map fun r => cnt2 (at_ b.rs r) (at_ ws r) l).sum < wantL b.ds l)
def treadB (b : Bk) (ws : List (List Int)) (as : List Int) : List Int := (iota b.ds.length).map fun z => cntW ((presB b as).map fun r => at_ ws r) z
def withB (ws : List (List Int)) (as : List Int) : List (List Int) := (enum ws).map fun p => if decide (p.1 ∈ as) = true then [] else p.2
def extStep (b : Bk) (kw : List (List Int)) (as : List Int) (z : Int) (f : List (List Int)) : List (List Int) := match stepB b kw f as z with
  | .inl ch => walkB f ch f
  | .inr _ => f
def extTimes (b : Bk) (kw : List (List Int)) (as : List Int) (z : Int) : Nat → List (List Int) → List (List Int)
  | 0, f => f
  | k + 1, f => extTimes b kw as z k (extStep b kw as z f)
def extLoop (b : Bk) (kw : List (List Int)) (as : List Int) : List (Int × Int) → List (List Int) → List (List Int)
  | [], f => f
  | p :: ps, f => extLoop b kw as ps (extTimes b kw as p.1 (at_ b.ds p.1 - p.2).toNat f)
def extendedB (b : Bk) (ws : List (List Int)) (as : List Int) : List (List Int) := extLoop b (withB ws as) as (enum (treadB b (withB ws as) as)) (withB ws as)
def extB (b : Bk) (ws : List (List Int)) (as : List Int) : List (List Int) ⊕ List Int := match (allSets b.ds.length).find? fun l => shortB b ws as l with
  | some l => .inr l
  | none => .inl (extendedB b ws as)
theorem setsF_len : ∀ n, (setsF n).length = 2 ^ n
  | 0 => rfl
  | n + 1 => by
    rw [setsF, List.length_append, List.length_map, setsF_len n, Nat.pow_succ]
    omega
theorem setsF_mem : ∀ {n : Nat} {l : List Int}, l ∈ setsF n ↔ l.Pairwise (· < ·) ∧ ∀ x ∈ l, 0 ≤ x ∧ x < (n : Int)
  | 0, l => by
    unfold setsF
    rw [List.mem_singleton]
    constructor
    · rintro rfl
      exact ⟨.nil, fun x hx => nomatch hx⟩
    · rintro ⟨_, h⟩
      cases l with
      | nil => rfl
      | cons x l => have := h x (by simp); omega
  | n + 1, l => by
    rw [setsF, List.mem_append, List.mem_map]
    constructor
    · rintro (h | ⟨s, h, rfl⟩)
      · obtain ⟨h1, h2⟩ := setsF_mem.mp h
        exact ⟨h1, fun x hx => by have := h2 x hx; omega⟩
      · obtain ⟨h1, h2⟩ := setsF_mem.mp h
        refine ⟨List.pairwise_append.mpr ⟨h1, List.pairwise_singleton _ _, fun x hx y hy => ?_⟩, fun x hx => ?_⟩
        · have := h2 x hx
          rw [List.mem_singleton.mp hy]
          omega
        · rcases List.mem_append.mp hx with hx | hx
          · have := h2 x hx
            omega
          · rw [List.mem_singleton.mp hx]
            omega
    · rintro ⟨h1, h2⟩
      by_cases hm : (n : Int) ∈ l
      · right
        have hne : l ≠ [] := fun e => by rw [e] at hm; cases hm
        have e : l = l.dropLast ++ [l.getLast hne] := (List.dropLast_concat_getLast hne).symm
        have hl : l.getLast hne = (n : Int) := by
          rw [e] at hm h1
          rcases List.mem_append.mp hm with hm | hm
          · have h3 := (List.pairwise_append.mp h1).2.2 _ hm _ (List.mem_singleton.mpr rfl)
            have := h2 (l.getLast hne) (List.getLast_mem hne)
            omega
          · exact (List.mem_singleton.mp hm).symm
        refine ⟨l.dropLast, setsF_mem.mpr ⟨?_, fun x hx => ?_⟩, by rw [← hl]; exact e.symm⟩
        · rw [e] at h1
          exact (List.pairwise_append.mp h1).1
        · have a := h2 x (by rw [e]; exact List.mem_append_left _ hx)
          rw [e] at h1
          have := (List.pairwise_append.mp h1).2.2 _ hx _ (List.mem_singleton.mpr rfl)
          omega
      · left
        refine setsF_mem.mpr ⟨h1, fun x hx => ?_⟩
        have := h2 x hx
        have : x ≠ (n : Int) := fun e => hm (e ▸ hx)
        omega
theorem setsF_head : ∀ n, ∃ r, setsF n = [] :: r
  | 0 => ⟨[], rfl⟩
  | n + 1 => by
    obtain ⟨r, e⟩ := setsF_head n
    exact ⟨r ++ (setsF n).map fun s => s ++ [(n : Int)], by rw [setsF, e]; rfl⟩
theorem setsF_ne : ∀ {n : Nat} {i : Nat} {l : List Int}, (setsF n)[i]? = some l → i ≠ 0 → l ≠ []
  | 0, i, l, h, hi => by
    cases i with
    | zero => exact absurd rfl hi
    | succ i => simp [setsF] at h
  | n + 1, i, l, h, hi => by
    rw [setsF] at h
    by_cases hl : i < (setsF n).length
    · rw [List.getElem?_append_left hl] at h
      exact setsF_ne h hi
    · rw [List.getElem?_append_right (by omega), List.getElem?_map] at h
      obtain ⟨s, _, e⟩ := Option.map_eq_some_iff.mp h
      rw [← e]
      simp
theorem allSets_mem {n : Nat} {l : List Int} : l ∈ allSets n ↔ l ≠ [] ∧ l.Pairwise (· < ·) ∧ ∀ x ∈ l, 0 ≤ x ∧ x < (n : Int) := by
  unfold allSets
  obtain ⟨r, e⟩ := setsF_head n
  constructor
  · intro h
    obtain ⟨i, hi, e2⟩ := List.mem_iff_getElem.mp h
    have h1 : (setsF n)[1 + i]? = some l := by
      rw [← e2, ← List.getElem?_drop, List.getElem?_eq_getElem hi]
    exact ⟨setsF_ne h1 (by omega), setsF_mem.mp (List.mem_of_getElem? h1)⟩
  · rintro ⟨h1, h2⟩
    have := setsF_mem.mpr h2
    rw [e] at this ⊢
    rcases List.mem_cons.mp this with h | h
    · exact absurd h h1
    · exact h
theorem enum_map {α : Type} (f : Int → α) (n : Int) : enum ((iota n).map f) = (iota n).map fun x => (x, f x) := by
  refine List.ext_getElem? fun i => ?_
  by_cases h : i < n.toNat
  · have h1 : (iota n)[i]? = some (i : Int) := by
      have hl : i < (iota n).length := by rw [iota_len]; exact h
      rw [List.getElem?_eq_getElem hl]
      obtain ⟨e, _⟩ := iota_at (n := n) (i := i) (x := (iota n)[i]) (by rw [List.getElem?_eq_getElem hl])
      rw [e]
    unfold enum
    rw [List.getElem?_map, List.getElem?_zipIdx, List.getElem?_map, List.getElem?_map, h1]
    simp
  · rw [List.getElem?_eq_none (by rw [enum_len, List.length_map, iota_len]; omega), List.getElem?_eq_none (by rw [List.length_map, iota_len]; omega)]
/-! ### counting -/
theorem cntW_le_len (ws : List (List Int)) (x : Int) : 0 ≤ cntW ws x ∧ cntW ws x ≤ ws.length := by
  unfold cntW
  have := List.length_filter_le (fun r => decide (x ∈ r)) ws
  omega
/-- row by row, work by work -/
theorem swap_sum (l : List Int) : ∀ ws : List (List Int), (ws.map fun w => ((l.filter fun x => decide (x ∈ w)).length : Int)).sum = (l.map fun x => cntW ws x).sum
  | [] => by
    induction l with
    | nil => rfl
    | cons x l ih =>
      rw [List.map_cons, List.sum_cons, ← ih]
      rfl
  | w :: ws => by
    rw [List.map_cons, List.sum_cons, swap_sum l ws]
    clear swap_sum
    induction l with
    | nil => rfl
    | cons x l ih =>
      rw [List.map_cons, List.sum_cons, List.map_cons, List.sum_cons, cntW_cons]
      unfold one_
      by_cases h : x ∈ w
      · rw [List.filter_cons_of_pos (by simp [h]), if_pos h, List.length_cons]
        omega
      · rw [List.filter_cons_of_neg (by simp [h]), if_neg h]
        omega
theorem sum_le {α : Type} {f g : α → Int} : ∀ {l : List α}, (∀ x ∈ l, f x ≤ g x) → (l.map f).sum ≤ (l.map g).sum
  | [], _ => Int.le_refl _
  | x :: l, h => by
    rw [List.map_cons, List.sum_cons, List.map_cons, List.sum_cons]
    have h1 := h x (by simp)
    have h2 := sum_le (l := l) fun y hy => h y (by simp [hy])
    omega
theorem sum_lt {α : Type} {f g : α → Int} : ∀ {l : List α} {z : α}, (∀ x ∈ l, f x ≤ g x) → z ∈ l → f z < g z → (l.map f).sum < (l.map g).sum
  | x :: l, z, h, hz, hlt => by
    rw [List.map_cons, List.sum_cons, List.map_cons, List.sum_cons]
    have h1 := h x (by simp)
    rcases List.mem_cons.mp hz with rfl | hz
    · have h2 := sum_le (l := l) fun y hy => h y (by simp [hy])
      omega
    · have h2 := sum_lt (l := l) (fun y hy => h y (by simp [hy])) hz hlt
      omega
theorem cntW_mono : ∀ {us ws : List (List Int)} {x : Int}, us.length = ws.length → (∀ i : Nat, ∀ u w, us[i]? = some u → ws[i]? = some w → x ∈ u → x ∈ w) → cntW us x ≤ cntW ws x
  | [], [], _, _, _ => Int.le_refl _
  | u :: us, w :: ws, x, hl, h => by
    rw [cntW_cons, cntW_cons]
    have h1 := h 0 u w rfl rfl
    have h2 := cntW_mono (us := us) (ws := ws) (x := x) (by simpa using hl) fun i u' w' e1 e2 => h (i + 1) u' w' e1 e2
    unfold one_
    by_cases hu : x ∈ u
    · rw [if_pos hu, if_pos (h1 hu)]
      omega
    · rw [if_neg hu]
      split <;> omega
theorem cntW_strict : ∀ {us ws : List (List Int)} {x : Int} {i : Nat} {u w : List Int}, us.length = ws.length → (∀ i : Nat, ∀ u w, us[i]? = some u → ws[i]? = some w → x ∈ u → x ∈ w) → us[i]? = some u → ws[i]? = some w → x ∉ u → x ∈ w → cntW us x < cntW ws x
  | [], _, _, _, _, _, _, _, h, _, _, _ => by simp at h
  | u' :: us, [], _, _, _, _, hl, _, _, _, _, _ => by simp at hl
  | u' :: us, w' :: ws, x, 0, u, w, hl, h, e1, e2, n1, m1 => by
    cases (show u' = u from Option.some.inj e1)
    cases (show w' = w from Option.some.inj e2)
    rw [cntW_cons, cntW_cons]
    have h2 := cntW_mono (us := us) (ws := ws) (x := x) (by simpa using hl) fun i u w e1 e2 => h (i + 1) u w e1 e2
    unfold one_
    rw [if_neg n1, if_pos m1]
    omega
  | u' :: us, w' :: ws, x, i + 1, u, w, hl, h, e1, e2, n1, m1 => by
    rw [cntW_cons, cntW_cons]
    have h1 := h 0 u' w' rfl rfl
    have h2 := cntW_strict (us := us) (ws := ws) (x := x) (i := i) (by simpa using hl) (fun i u w e1 e2 => h (i + 1) u w e1 e2) e1 e2 n1 m1
    unfold one_
    by_cases hu : x ∈ u'
    · rw [if_pos hu, if_pos (h1 hu)]
      omega
    · rw [if_neg hu]
      split <;> omega
end Ew
namespace Ew
open PySem PySem.Spec PyProof.Rows L2
theorem at_eq {α : Type} [Inhabited α] {l : List α} {i : Nat} {x : α} (h : l[i]? = some x) : at_ l (i : Int) = x := by
  unfold at_
  rw [Int.toNat_natCast, List.getD_eq_getElem?_getD, h]
  rfl
theorem RowsOk.rowsIn {b : Bk} {ws : List (List Int)} (h : RowsOk b ws) (ok : DsOk b.ds b.rs) : RowsIn b ws := ⟨h.1, fun w hw x hx => by
  obtain ⟨j, hj, e⟩ := List.mem_iff_getElem.mp hw
  have r := h.2 (j : Int) ⟨by omega, by omega⟩
  rw [at_eq (show ws[j]? = some w by rw [List.getElem?_eq_getElem hj, e])] at r
  have m := at_mem (l := b.rs) (i := (j : Int)) ⟨by omega, by rw [← h.1]; omega⟩
  exact (ok.ok _ m).2.2.2 x (r.2.1 x hx)⟩
theorem RowsOk.rowsB {b : Bk} {ws : List (List Int)} (h : RowsOk b ws) : rowsB ws b.rs = true := by
  unfold Ew.rowsB
  rw [decide_eq_true h.1, Bool.true_and, List.all_eq_true]
  intro p hp
  obtain ⟨j, hj, e⟩ := List.mem_iff_getElem.mp hp
  rw [List.length_zip] at hj
  have r := h.2 (j : Int) ⟨by omega, by omega⟩
  rw [List.getElem_zip] at e
  rw [at_eq (show ws[j]? = some ws[j] from List.getElem?_eq_getElem (by omega)), at_eq (show b.rs[j]? = some b.rs[j] from List.getElem?_eq_getElem (by omega))] at r
  rw [← e]
  exact decide_eq_true r
theorem with_len (ws : List (List Int)) (as : List Int) : (withB ws as).length = ws.length := by
  unfold withB
  rw [List.length_map, enum_len]
theorem enum_get {α : Type} {l : List α} {i : Nat} {x : α} (h : l[i]? = some x) : (enum l)[i]? = some ((i : Int), x) := by
  unfold enum
  rw [List.getElem?_map, List.getElem?_zipIdx, h]
  simp
theorem with_at {ws : List (List Int)} {as : List Int} {r : Int} (h : 0 ≤ r ∧ r < ws.length) : at_ (withB ws as) r = if r ∈ as then [] else at_ ws r := by
  obtain ⟨j, rfl⟩ : ∃ j : Nat, r = (j : Int) := ⟨r.toNat, by omega⟩
  have h1 : ws[j]? = some (at_ ws (j : Int)) := by
    have := at_get h
    rwa [Int.toNat_natCast] at this
  have h2 : (withB ws as)[j]? = some (if decide ((j : Int) ∈ as) = true then [] else at_ ws (j : Int)) := by
    unfold withB
    rw [List.getElem?_map, enum_get h1]
    rfl
  rw [at_eq h2]
  by_cases hm : (j : Int) ∈ as
  · rw [if_pos (by simp [hm]), if_pos hm]
  · rw [if_neg (by simp [hm]), if_neg hm]
theorem with_ok {b : Bk} {ws : List (List Int)} {as : List Int} (h : RowsOk b ws) (ok : DsOk b.ds b.rs) : RowsOk b (withB ws as) := ⟨by rw [with_len]; exact h.1, fun i hi => by
  rw [with_len] at hi
  rw [with_at hi]
  by_cases hm : i ∈ as
  · rw [if_pos hm]
    exact ⟨.nil, fun x hx => (nomatch hx), (ok.ok _ (at_mem ⟨hi.1, by rw [← h.1]; exact hi.2⟩)).1⟩
  · rw [if_neg hm]
    exact h.2 i hi⟩
/-- rows on the way from kw -/
structure ExtSt (b : Bk) (kw : List (List Int)) (as : List Int) (f : List (List Int)) : Prop where
  ok : RowsOk b f
  kl : kw.length = f.length
  sub : ∀ r : Int, 0 ≤ r ∧ r < f.length → ∀ x ∈ at_ kw r, x ∈ at_ f r
  abs : ∀ r : Int, 0 ≤ r ∧ r < f.length → r ∈ as → at_ f r = []
theorem chain_keeps {b : Bk} {kw f0 : List (List Int)} {as : List Int} (E : ExtSt b kw as f0) : ∀ {ls : List Link} {z : Option Int} {e : List Int} {f : List (List Int)}, chainB b kw f0 as ls z e = true → f.length = f0.length →
    (∀ r : Int, 0 ≤ r ∧ r < f.length → ∀ x ∈ at_ kw r, x ∈ at_ f r) → (∀ r : Int, 0 ≤ r ∧ r < f.length → r ∈ as → at_ f r = []) →
    (∀ r : Int, 0 ≤ r ∧ r < f.length → ∀ x ∈ at_ kw r, x ∈ at_ (walkB f0 ls f) r) ∧ (∀ r : Int, 0 ≤ r ∧ r < f.length → r ∈ as → at_ (walkB f0 ls f) r = [])
  | [], _, _, _, _, _, h1, h2 => ⟨h1, h2⟩
  | l :: ls, z, e, f, h, hl, h1, h2 => by
    rw [chainB] at h
    by_cases hb : (!linkB b kw f0 as z l || decide (l.1 ∈ e)) = true
    · rw [if_pos hb] at h
      cases h
    · rw [if_neg hb] at h
      simp only [Bool.or_eq_true, Bool.not_eq_true', decide_eq_true_eq, not_or, Bool.not_eq_false] at hb
      obtain ⟨hlk, _⟩ := hb
      obtain ⟨p1, p2, p3, p4, p5, p6⟩ := link_parts hlk
      have hi : 0 ≤ l.1 ∧ l.1 < f.length := ⟨p2.1, by rw [hl, E.ok.1]; exact p2.2⟩
      rw [walkB]
      have := chain_keeps E (f := f.set l.1.toNat (newRow (at_ f0 l.1) l)) h (by rw [List.length_set]; exact hl) (fun r hr x hx => ?_) (fun r hr hm => ?_)
      · rw [List.length_set] at this
        exact this
      · rw [List.length_set] at hr
        rw [at_set hi hr.1]
        by_cases e : l.1 = r
        · rw [if_pos e]
          subst e
          refine new_mem.mpr (.inl ⟨E.sub _ (by rw [← hl]; exact hi) x hx, fun e => ?_⟩)
          rw [← e] at p6
          have p6 : x ∈ looseB kw f0 l.1 := of_decide_eq_true p6
          have := (List.mem_filter.mp p6).2
          simp [hx] at this
        · rw [if_neg e]
          exact h1 r hr x hx
      · rw [List.length_set] at hr
        rw [at_set hi hr.1, if_neg fun e => p3 (by rw [e]; exact hm)]
        exact h2 r hr hm
theorem sub_len {a c : List Int} (ha : a.Nodup) (h : ∀ x ∈ a, x ∈ c) : a.length ≤ c.length := by
  induction a generalizing c with
  | nil => exact Nat.zero_le _
  | cons x a ih =>
    have hn := List.nodup_cons.mp ha
    have hx := h x (by simp)
    have := ih (c := c.erase x) hn.2 fun y hy => by
      have hne : y ≠ x := fun e => hn.1 (e ▸ hy)
      exact (List.mem_erase_of_ne hne).mpr (h y (by simp [hy]))
    rw [List.length_erase_of_mem hx] at this
    have := List.length_pos_of_mem hx
    rw [List.length_cons]
    omega
theorem presB_mem {b : Bk} {as : List Int} {r : Int} : r ∈ presB b as ↔ (0 ≤ r ∧ r < b.rs.length) ∧ r ∉ as := presL_mem
/-- the rows of those who are there -/
theorem cntW_map_le {f : List (List Int)} {x : Int} : ∀ {rs : List Int}, rs.Nodup → (∀ r ∈ rs, 0 ≤ r ∧ r < (f.length : Int)) → cntW (rs.map fun r => at_ f r) x ≤ cntW f x := by
  intro rs nd hr
  unfold cntW
  have e1 : ((rs.map fun r => at_ f r).filter fun w => decide (x ∈ w)).length = (rs.filter fun r => decide (x ∈ at_ f r)).length := by
    rw [List.filter_map, List.length_map]
    rfl
  have e2 : (f.filter fun w => decide (x ∈ w)).length = ((iota f.length).filter fun r => decide (x ∈ at_ f r)).length := by
    have e : f = (iota f.length).map fun r => at_ f r := by
      refine List.ext_getElem? fun i => ?_
      by_cases h : i < f.length
      · have h1 : (iota f.length)[i]? = some (i : Int) := by
          have hl : i < (iota f.length).length := by rw [iota_len]; omega
          rw [List.getElem?_eq_getElem hl]
          obtain ⟨e, _⟩ := iota_at (n := f.length) (i := i) (x := (iota f.length)[i]) (by rw [List.getElem?_eq_getElem hl])
          rw [e]
        rw [List.getElem?_map, h1, List.getElem?_eq_getElem h]
        exact congrArg some (at_eq (List.getElem?_eq_getElem h)).symm
      · rw [List.getElem?_eq_none (by omega), List.getElem?_eq_none (by rw [List.length_map, iota_len]; omega)]
    conv => lhs; rw [e]
    rw [List.filter_map, List.length_map]
    rfl
  rw [e1, e2]
  have := sub_len (a := rs.filter fun r => decide (x ∈ at_ f r)) (c := (iota f.length).filter fun r => decide (x ∈ at_ f r)) (nd.filter _) fun r hm => by
    obtain ⟨m1, m2⟩ := List.mem_filter.mp hm
    exact List.mem_filter.mpr ⟨iota_mem.mpr (hr r m1), m2⟩
  omega
theorem iota_nd (n : Int) : (iota n).Nodup := by
  unfold iota
  refine List.Pairwise.map _ (fun a b h => ?_) (List.nodup_range (n := n.toNat))
  intro e
  exact h (by omega)
theorem presB_nd (b : Bk) (as : List Int) : (presB b as).Nodup := (iota_nd _).filter _
/-- where no set is short there is a chain -/
theorem ext_step {b : Bk} {ws f : List (List Int)} {as : List Int} {z : Int} (ok : DsOk b.ds b.rs) (hws : RowsOk b ws) (hns : ∀ l ∈ allSets b.ds.length, shortB b ws as l = false) (E : ExtSt b (withB ws as) as f) (hz : 0 ≤ z ∧ z < b.ds.length) (hlt : cntW f z < at_ b.ds z)
    (hle : ∀ x : Int, 0 ≤ x ∧ x < b.ds.length → cntW f x ≤ max (at_ b.ds x) (cntW (withB ws as) x)) : ∃ ch, stepB b (withB ws as) f as z = .inl ch ∧ chainB b (withB ws as) f as ch (some z) [] = true := by
  have sr := step_right (kw := withB ws as) (as := as) (E.ok.rowsIn ok) ok.n6 hz
  cases hst : stepB b (withB ws as) f as z with
  | inl ch =>
    rw [hst] at sr
    exact ⟨ch, rfl, sr⟩
  | inr s =>
    rw [hst] at sr
    obtain ⟨c, rfl, sok, hsr, hpr⟩ := sr
    exfalso
    have hnd := sok.nd
    have hrg := sok.rg
    have hl : srt (keysOf c) ∈ allSets b.ds.length := allSets_mem.mpr ⟨fun e => (by
      have hzm : z ∈ srt (keysOf c) := srt_mem.mpr hsr.here
      rw [e] at hzm
      cases hzm), srt_lt hnd, fun x hx => hrg x (srt_mem.mp hx)⟩
    have hsh := of_decide_eq_false (hns _ hl)
    have lnd : (srt (keysOf c)).Nodup := (srt_perm _).nodup_iff.mpr hnd
    have hwl : ws.length = f.length := by rw [← with_len ws as]; exact E.kl
    have hfl := E.ok.1
    -- reader by reader
    have h1 : ∀ r ∈ presB b as, cnt2 (at_ b.rs r) (at_ ws r) (srt (keysOf c)) ≤ (((srt (keysOf c)).filter fun x => decide (x ∈ at_ f r)).length : Int) := fun r hr => by
      obtain ⟨hr1, hr2⟩ := presB_mem.mp hr
      have hrf : 0 ≤ r ∧ r < f.length := ⟨hr1.1, by rw [hfl]; exact hr1.2⟩
      have ekw : at_ (withB ws as) r = at_ ws r := by
        rw [with_at ⟨hr1.1, by rw [hwl, hfl]; exact hr1.2⟩, if_neg hr2]
      have rf := E.ok.2 r hrf
      have fnd := nodup_asc rf.1
      have hcap : cnt2 (at_ b.rs r) (at_ ws r) (srt (keysOf c)) ≤ (((srt (keysOf c)).filter fun x => decide (x ∈ (at_ b.rs r).2)).length : Int) ∧ cnt2 (at_ b.rs r) (at_ ws r) (srt (keysOf c)) ≤ (at_ b.rs r).1 - (((at_ ws r).filter fun x => !decide (x ∈ srt (keysOf c))).length : Int) := by
        unfold cnt2
        dsimp only
        split <;> omega
      by_cases hc : ∃ x ∈ srt (keysOf c), canB b f r x = true
      · obtain ⟨x, hx, hcx⟩ := hc
        obtain ⟨hfree, hdone⟩ := hpr x (srt_mem.mp hx) (by simp) r (List.mem_filter.mpr ⟨hr, hcx⟩)
        have hfree := of_decide_eq_false (show decide (((at_ f r).length : Int) < (at_ b.rs r).1) = false from hfree)
        have e1 := split_len (fun x => decide (x ∈ srt (keysOf c))) (at_ f r)
        have e2 : ((at_ f r).filter fun x => !decide (x ∈ srt (keysOf c))).length ≤ ((at_ ws r).filter fun x => !decide (x ∈ srt (keysOf c))).length := sub_len (fnd.filter _) fun y hy => by
          obtain ⟨m1, m2⟩ := List.mem_filter.mp hy
          refine List.mem_filter.mpr ⟨?_, m2⟩
          rw [← ekw]
          by_cases hk : y ∈ at_ (withB ws as) r
          · exact hk
          · have := hdone y (List.mem_filter.mpr ⟨m1, by simp [hk]⟩)
            have : y ∈ srt (keysOf c) := srt_mem.mpr this
            simp [this] at m2
        have e3 : ((at_ f r).filter fun x => decide (x ∈ srt (keysOf c))).length = ((srt (keysOf c)).filter fun x => decide (x ∈ at_ f r)).length := nodup_same (fnd.filter _) (lnd.filter _) fun y => by
          simp only [List.mem_filter, decide_eq_true_eq]
          exact ⟨fun h => ⟨h.2, h.1⟩, fun h => ⟨h.2, h.1⟩⟩
        omega
      · have e2 : ((srt (keysOf c)).filter fun x => decide (x ∈ (at_ b.rs r).2)).length ≤ ((srt (keysOf c)).filter fun x => decide (x ∈ at_ f r)).length := sub_len (lnd.filter _) fun y hy => by
          obtain ⟨m1, m2⟩ := List.mem_filter.mp hy
          refine List.mem_filter.mpr ⟨m1, ?_⟩
          by_cases hk : y ∈ at_ f r
          · exact decide_eq_true hk
          · exact absurd ⟨y, m1, by unfold canB; simp [of_decide_eq_true m2, hk]⟩ hc
        omega
    have h2 := sum_le h1
    have h3 := swap_sum (srt (keysOf c)) ((presB b as).map fun r => at_ f r)
    rw [List.map_map] at h3
    have h3 : ((presB b as).map fun r => (((srt (keysOf c)).filter fun x => decide (x ∈ at_ f r)).length : Int)).sum = ((srt (keysOf c)).map fun x => cntW ((presB b as).map fun r => at_ f r) x).sum := h3
    have h4 : ((srt (keysOf c)).map fun x => cntW ((presB b as).map fun r => at_ f r) x).sum ≤ ((srt (keysOf c)).map fun x => cntW f x).sum := sum_le fun x _ => cntW_map_le (presB_nd b as) fun r hr => by
      rw [hfl]
      exact (presB_mem.mp hr).1
    have h5 : ((srt (keysOf c)).map fun x => cntW f x).sum < ((srt (keysOf c)).map fun x => at_ b.ds x).sum := by
      refine sum_lt (z := z) (fun x hx => ?_) (srt_mem.mpr hsr.here) hlt
      have hxk := srt_mem.mp hx
      have hxr := hrg x hxk
      obtain ⟨p, hp, e⟩ := List.mem_map.mp (show x ∈ c.map (·.1) from hxk)
      have hpp := hsr.pth p hp
      rw [e] at hpp
      generalize p.2 = ch at hpp
      cases hpp with
      | nil => omega
      | @snoc ch t r g _ ht hg _ =>
        obtain ⟨hr1, hr2⟩ := presB_mem.mp (List.mem_filter.mp ht).1
        obtain ⟨g1, g2⟩ := List.mem_filter.mp hg
        have g2 : x ∉ at_ (withB ws as) r := by simpa using g2
        have hrf : 0 ≤ r ∧ r < f.length := ⟨hr1.1, by rw [hfl]; exact hr1.2⟩
        have := cntW_strict (us := withB ws as) (ws := f) (x := x) (i := r.toNat) E.kl (fun i u w e1 e2 hu => by
          have hi : i < f.length := (List.getElem?_eq_some_iff.mp e2).1
          have := E.sub (i : Int) ⟨by omega, by omega⟩ x (by rw [at_eq e1]; exact hu)
          rwa [at_eq e2] at this) (at_get (by rw [E.kl]; exact hrf)) (at_get hrf) g2 g1
        have := hle x hxr
        omega
    have h6 : ((srt (keysOf c)).map fun x => at_ b.ds x).sum = wantL b.ds (srt (keysOf c)) := rfl
    omega
/-- one more reading of a work -/
theorem ext_one {b : Bk} {ws f : List (List Int)} {as : List Int} {z : Int} (ok : DsOk b.ds b.rs) (hws : RowsOk b ws) (hns : ∀ l ∈ allSets b.ds.length, shortB b ws as l = false) (E : ExtSt b (withB ws as) as f) (hz : 0 ≤ z ∧ z < b.ds.length) (hlt : cntW f z < at_ b.ds z)
    (hle : ∀ x : Int, 0 ≤ x ∧ x < b.ds.length → cntW f x ≤ max (at_ b.ds x) (cntW (withB ws as) x)) :
    (∃ ch, stepB b (withB ws as) f as z = .inl ch ∧ chainB b (withB ws as) f as ch (some z) [] = true) ∧ ExtSt b (withB ws as) as (extStep b (withB ws as) as z f) ∧ ∀ x : Int, cntW (extStep b (withB ws as) as z f) x = cntW f x + one_ (x = z) := by
  obtain ⟨ch, hst, hch⟩ := ext_step ok hws hns E hz hlt hle
  refine ⟨⟨ch, hst, hch⟩, ?_⟩
  have e : extStep b (withB ws as) as z f = walkB f ch f := by
    unfold extStep
    rw [hst]
  rw [e]
  obtain ⟨r1, r2⟩ := chain_walk E.ok (f := f) hch E.ok (fun _ _ _ => rfl) fun x => by
    congr 1
    unfold one_
    by_cases e : x = z
    · rw [if_pos e, if_pos (by rw [e])]
    · rw [if_neg e, if_neg (by simpa using e)]
  obtain ⟨k1, k2⟩ := chain_keeps E (f := f) hch rfl E.sub E.abs
  exact ⟨⟨r1, by rw [walk_len]; exact E.kl, fun r hr => k1 r (by rw [walk_len] at hr; exact hr), fun r hr => k2 r (by rw [walk_len] at hr; exact hr)⟩, r2⟩
theorem ext_times {b : Bk} {ws : List (List Int)} {as : List Int} {z : Int} (ok : DsOk b.ds b.rs) (hws : RowsOk b ws) (hns : ∀ l ∈ allSets b.ds.length, shortB b ws as l = false) (hz : 0 ≤ z ∧ z < b.ds.length) : ∀ {k : Nat} {f : List (List Int)}, ExtSt b (withB ws as) as f → cntW f z + k ≤ max (at_ b.ds z) (cntW f z) →
    (∀ x : Int, 0 ≤ x ∧ x < b.ds.length → cntW f x ≤ max (at_ b.ds x) (cntW (withB ws as) x)) →
    ExtSt b (withB ws as) as (extTimes b (withB ws as) as z k f) ∧ ∀ x : Int, cntW (extTimes b (withB ws as) as z k f) x = cntW f x + (if x = z then (k : Int) else 0)
  | 0, f, E, _, _ => ⟨E, fun x => by rw [extTimes]; split <;> omega⟩
  | k + 1, f, E, hk, hle => by
    obtain ⟨_, E1, c1⟩ := ext_one ok hws hns E hz (by omega) hle
    have cz := c1 z
    have oz : one_ (z = z) = 1 := if_pos rfl
    rw [extTimes]
    obtain ⟨E2, c2⟩ := ext_times ok hws hns hz (k := k) (f := extStep b (withB ws as) as z f) E1 (by omega) fun x hx => by
      rw [c1 x]
      have := hle x hx
      unfold one_
      by_cases e : x = z
      · subst e
        rw [if_pos rfl]
        omega
      · rw [if_neg e]
        omega
    refine ⟨E2, fun x => ?_⟩
    rw [c2 x, c1 x]
    unfold one_
    by_cases e : x = z
    · rw [if_pos e, if_pos e, if_pos e]
      omega
    · rw [if_neg e, if_neg e, if_neg e]
      omega
theorem ext_loop {b : Bk} {ws : List (List Int)} {as : List Int} (ok : DsOk b.ds b.rs) (hws : RowsOk b ws) (hns : ∀ l ∈ allSets b.ds.length, shortB b ws as l = false) : ∀ {zs : List Int} {f : List (List Int)}, zs.Nodup → (∀ z ∈ zs, 0 ≤ z ∧ z < (b.ds.length : Int)) → ExtSt b (withB ws as) as f →
    (∀ z ∈ zs, cntW f z = cntW (withB ws as) z) → (∀ x : Int, 0 ≤ x ∧ x < b.ds.length → cntW f x ≤ max (at_ b.ds x) (cntW (withB ws as) x)) →
    ExtSt b (withB ws as) as (extLoop b (withB ws as) as (zs.map fun z => (z, cntW (withB ws as) z)) f) ∧ (∀ z ∈ zs, cntW (extLoop b (withB ws as) as (zs.map fun z => (z, cntW (withB ws as) z)) f) z = max (at_ b.ds z) (cntW (withB ws as) z)) ∧
      ∀ x : Int, x ∉ zs → cntW (extLoop b (withB ws as) as (zs.map fun z => (z, cntW (withB ws as) z)) f) x = cntW f x
  | [], f, _, _, E, _, _ => ⟨E, (fun _ h => nomatch h), fun _ _ => rfl⟩
  | z :: zs, f, nd, hr, E, he, hle => by
    have nd' := List.nodup_cons.mp nd
    have hz := hr z (by simp)
    have ez := he z (by simp)
    obtain ⟨E1, c1⟩ := ext_times ok hws hns hz (k := (at_ b.ds z - cntW (withB ws as) z).toNat) E (by omega) hle
    have cz := c1 z
    rw [if_pos rfl] at cz
    rw [List.map_cons, extLoop]
    obtain ⟨E2, c2, c3⟩ := ext_loop ok hws hns (zs := zs) (f := extTimes b (withB ws as) as z (at_ b.ds z - cntW (withB ws as) z).toNat f) nd'.2 (fun y hy => hr y (by simp [hy])) E1 (fun y hy => by
      have hne : y ≠ z := fun e => nd'.1 (e ▸ hy)
      have := c1 y
      rw [if_neg hne] at this
      have := he y (by simp [hy])
      omega) fun x hx => by
      have := c1 x
      have := hle x hx
      by_cases e : x = z
      · subst e
        omega
      · rw [if_neg e] at *
        omega
    refine ⟨E2, fun y hy => ?_, fun x hx => ?_⟩
    · rcases List.mem_cons.mp hy with rfl | hy
      · have := c3 y nd'.1
        dsimp only at *
        omega
      · exact c2 y hy
    · have h1 : x ≠ z := fun e => hx (by simp [e])
      have := c3 x fun h => hx (by simp [h])
      have c := c1 x
      rw [if_neg h1] at c
      dsimp only at *
      omega
theorem cntW_pres {b : Bk} {f : List (List Int)} {as : List Int} {x : Int} (hl : f.length = b.rs.length) (habs : ∀ r : Int, 0 ≤ r ∧ r < f.length → r ∈ as → at_ f r = []) : cntW ((presB b as).map fun r => at_ f r) x = cntW f x := by
  have h1 := cntW_map_le (f := f) (x := x) (presB_nd b as) fun r hr => by rw [hl]; exact (presB_mem.mp hr).1
  have h2 : cntW f x ≤ cntW ((presB b as).map fun r => at_ f r) x := by
    have e1 : cntW ((presB b as).map fun r => at_ f r) x = (((presB b as).filter fun r => decide (x ∈ at_ f r)).length : Int) := by
      unfold cntW
      rw [List.filter_map, List.length_map]
      rfl
    have e2 : cntW f x = (((iota f.length).filter fun r => decide (x ∈ at_ f r)).length : Int) := by
      have e : f = (iota f.length).map fun r => at_ f r := by
        refine List.ext_getElem? fun i => ?_
        by_cases h : i < f.length
        · have h1 : (iota f.length)[i]? = some (i : Int) := by
            have hl : i < (iota f.length).length := by rw [iota_len]; omega
            rw [List.getElem?_eq_getElem hl]
            obtain ⟨e, _⟩ := iota_at (n := f.length) (i := i) (x := (iota f.length)[i]) (by rw [List.getElem?_eq_getElem hl])
            rw [e]
          rw [List.getElem?_map, h1, List.getElem?_eq_getElem h]
          exact congrArg some (at_eq (List.getElem?_eq_getElem h)).symm
        · rw [List.getElem?_eq_none (by omega), List.getElem?_eq_none (by rw [List.length_map, iota_len]; omega)]
      unfold cntW
      conv => lhs; rw [e]
      rw [List.filter_map, List.length_map]
      rfl
    rw [e1, e2]
    have := sub_len (a := (iota f.length).filter fun r => decide (x ∈ at_ f r)) (c := (presB b as).filter fun r => decide (x ∈ at_ f r)) ((iota_nd _).filter _) fun r hm => by
      obtain ⟨m1, m2⟩ := List.mem_filter.mp hm
      have hr := iota_mem.mp m1
      refine List.mem_filter.mpr ⟨presB_mem.mpr ⟨by rw [← hl]; exact hr, fun ha => ?_⟩, m2⟩
      rw [habs r hr ha] at m2
      simp at m2
    omega
  omega
theorem with_st {b : Bk} {ws : List (List Int)} {as : List Int} (ok : DsOk b.ds b.rs) (hws : RowsOk b ws) : ExtSt b (withB ws as) as (withB ws as) := ⟨with_ok hws ok, rfl, fun _ _ _ h => h, fun r hr hm => by
  rw [with_len] at hr
  rw [with_at hr, if_pos hm]⟩
theorem tread_eq {b : Bk} {ws : List (List Int)} {as : List Int} (ok : DsOk b.ds b.rs) (hws : RowsOk b ws) : enum (treadB b (withB ws as) as) = (iota b.ds.length).map fun z => (z, cntW (withB ws as) z) := by
  have E := with_st (as := as) ok hws
  unfold treadB
  rw [enum_map]
  refine List.map_congr_left fun z _ => ?_
  rw [cntW_pres E.ok.1 E.abs]
/-- what extended tells -/
theorem extended_right {b : Bk} {ws : List (List Int)} {as : List Int} (ok : DsOk b.ds b.rs) (hws : RowsOk b ws) (hns : ∀ l ∈ allSets b.ds.length, shortB b ws as l = false) :
    ExtSt b (withB ws as) as (extendedB b ws as) ∧ ∀ z : Int, 0 ≤ z ∧ z < b.ds.length → cntW (extendedB b ws as) z = max (at_ b.ds z) (cntW (withB ws as) z) := by
  unfold extendedB
  rw [tread_eq ok hws]
  obtain ⟨h1, h2, _⟩ := ext_loop ok hws hns (zs := iota b.ds.length) (iota_nd _) (fun z hz => iota_mem.mp hz) (with_st (as := as) ok hws) (fun _ _ => rfl) fun x _ => by omega
  exact ⟨h1, fun z hz => h2 z (iota_mem.mpr hz)⟩
end Ew
namespace Ew
open PySem PySem.Spec PyProof.Rows L2
section
variable {P : Program} {w : World} {K : PySem.W.Frag} {mg : Str → Option Value} {base : Heap} {C : Addr}
abbrev sCount : Stmt := (top 19)
def sp_count (K : PySem.W.Frag) (C : Addr) : Sp := spD (K := K) (C := C) (aC kBk (aC (kL (kT kI)) (aC kI (aC (kT kI) aN)))) kI (fun (b , ws , r , l , _) => (0 ≤ r ∧ r < b.rs.length) ∧ ws.length = b.rs.length) fun (b, ws, r, l, _) => cnt2 (at_ b.rs r) (at_ ws r) l
theorem scCount : FnScope ["book", "rows", "reader", "works", "limit", "may", "outside", "work", "within"] ["book", "rows", "reader", "works"] (defScope sCount) := ⟨rfl, rfl, rfl, by decide +kernel, rfl, by decide +kernel, by decide +kernel⟩
theorem c_count (D : DefAt K mg "count" sCount ["book", "rows", "reader", "works"]) (B : Bi mg) (T : BkC P w K mg base C)   : C8.Cal P w K mg base 2 "count" (sp_count K C) [] := by
  refine calD D scCount rfl fun f cdv A outer s H vs Q E S a hr fr ha hp q => ?_
  obtain ⟨b, ws, r, l, _⟩ := a
  obtain ⟨w_book, _, rfl, h_book, w_rows, _, rfl, h_rows, w_reader, _, rfl, h_reader, w_works, _, rfl, h_works, e⟩ := ha
  cases (show _ = [] from e)
  have h_book : (kBk : Kd K C _).rp S H w_book b := h_book
  have h_rows : ((kL (kT kI)) : Kd K C _).rp S H w_rows ws := h_rows
  have h_reader : (kI : Kd K C _).rp S H w_reader r := h_reader
  have h_works : ((kT kI) : Kd K C _).rp S H w_works l := h_works
  have ok_book := kBk.ok h_book
  have r6_book := ok_book.r6
  have n6_book := ok_book.n6
  have n1_book := ok_book.n1
  have n_rows := kL_len h_rows
  have n_works := kT_len h_works
  have q : ∀ v H', Same H H' → (kI : Kd K C _).rp S H' v (cnt2 (at_ b.rs r) (at_ ws r) l) → Q v H' := q
  obtain ⟨p1, p2⟩ : (0 ≤ r ∧ r < b.rs.length) ∧ ws.length = b.rs.length := hp
  refine ⟨_, (pss_cons (ps_asg (pe_ix ix_list (C8.pe_mt0 T.rd hr (by decide) (pv 0)) (pv 2) (fun _ _ => rfl)) (pg_tup (by rfl) (pgs_cons (pg_name (i := 4) scCount.nd rfl (.inl rfl)) (pgs_cons (pg_name (i := 5) scCount.nd rfl (.inr rfl)) pgs_nil))))
 (pss_cons (ps_set (i := 6) scCount.nd rfl (.inl rfl) (pe_callB call_len_seq (by rfl) B.len PySem.boot_len (pa_cons (pe_lc (own := [("work", 7)]) (g := (gName 7)) (tt := (tTest (tOp (rIn K true) (tVar 7) (tVar 3)))) (te := (tVar 7)) rfl scCount.nd (pi_tup (pe_ix ix_list (pv 1) (pv 2) (fun _ _ => rfl))) (blkOk_by (own := [("work", 7)]) (N := ["book", "rows", "reader", "works", "limit", "may", "outside", "work", "within"]) (sc := defScope sCount) (by decide +kernel)) (fun _ _ _ _ _ => (pg_name (i := 7) scCount.nd rfl (.inl rfl))) (fun _ _ _ _ _ => pts_one (pt_cmpR op_notIn_seq (pv 7) (pv 3) (by rfl))) (fun _ _ _ _ _ => (pv 7))) pa_nil)))
 (pss_cons (ps_set (i := 8) scCount.nd rfl (.inl rfl) (pe_callB call_len_seq (by rfl) B.len PySem.boot_len (pa_cons (pe_lc (own := [("work", 7)]) (g := (gName 7)) (tt := (tTest (tOp (rIn K false) (tVar 7) (tVar 5)))) (te := (tVar 7)) rfl scCount.nd (pi_tup (pv 3)) (blkOk_by (own := [("work", 7)]) (N := ["book", "rows", "reader", "works", "limit", "may", "outside", "work", "within"]) (sc := defScope sCount) (by decide +kernel)) (fun _ _ _ _ _ => (pg_name (i := 7) scCount.nd rfl (.inl rfl))) (fun _ _ _ _ _ => pts_one (pt_cmpR op_in_seq (pv 7) (pv 5) (by rfl))) (fun _ _ _ _ _ => (pv 7))) pa_nil)))
 (pss_one (ps_ret (pe_callB (call_min2 rfl) (by rfl) B.min (by decide +kernel) (pa_cons (pe_op op_sub (pv 4) (pv 6)) (pa_cons (pv 8) pa_nil)))))))), ?_⟩
  try dsimp only [cxOf, Cx.nox, Cx.wish]
  exact q_set2 (ev_ixL (EvN.ev (evn_rd (ev_var rfl h_book Lf.refl) fr)) (ev_var rfl h_reader Lf.refl) (by first | omega | (dsimp only; omega))) fun a1_ b1_ H1_ s1 h10 h11 =>
    q_set (ev_len (EvN.ev (evn_lc (fr.same s1) (evi_tup (ev_ixL (ev_var rfl h_rows (Lf.same s1)) (ev_var rfl h_reader (Lf.same s1)) (by first | omega | (dsimp only; omega)))) (by first | exact kWs_len h_rows _ (at_mem (by omega)) | exact n_works) (fun y1 hy1 D1 v1 H1 l1 f1 hv1 => lcb_name rfl (evt_test (ev_nin (ev_var rfl hv1 Lf.refl) (ev_var rfl h_works (Lf.trans (Lf.same s1) l1)) IsSq.t)) (fun ht1 => (ev_var rfl hv1 Lf.refl))))) IsSq.l) fun w2_ H2_ s2 h2 =>
    q_set (ev_len (EvN.ev (evn_lc ((fr.same s1).same s2) (evi_tup (ev_var rfl h_works (Lf.trans (Lf.same s1) (Lf.same s2)))) (by first | exact kWs_len h_rows _ (at_mem (by omega)) | exact n_works) (fun y2 hy2 D2 v2 H2 l2 f2 hv2 => lcb_name rfl (evt_test (ev_in (ev_var rfl hv2 Lf.refl) (ev_var rfl h11 (Lf.trans (Lf.same s2) l2)) IsSq.t)) (fun ht2 => (ev_var rfl hv2 Lf.refl))))) IsSq.l) fun w3_ H3_ s3 h3 =>
    s_ret (Ev.to (ev_mm (ev_I2 (ev_var rfl h10 (Lf.trans (Lf.same s2) (Lf.same s3))) (ev_var rfl h2 (Lf.same s3))) (ev_var rfl h3 Lf.refl)) (by rw [List.map_id', List.map_id']; rfl)) fun v H' s' r => q v H' (s1.trans (s2.trans (s3.trans s'))) r

abbrev sShort : Stmt := (top 20)
def sp_is_short (K : PySem.W.Frag) (C : Addr) : Sp := spD (K := K) (C := C) (aC kBk (aC (kL (kT kI)) (aC (kT kI) (aC (kT kI) aN)))) kB (fun (b , ws , as , l , _) => ws.length = b.rs.length ∧ ∀ z ∈ l, 0 ≤ z ∧ z < b.ds.length) fun (b, ws, as, l, _) => shortB b ws as l
theorem scShort : FnScope ["book", "rows", "absent", "works", "demands", "counts", "reader", "work"] ["book", "rows", "absent", "works"] (defScope sShort) := ⟨rfl, rfl, rfl, by decide +kernel, rfl, by decide +kernel, by decide +kernel⟩
theorem c_is_short (D : DefAt K mg "is_short" sShort ["book", "rows", "absent", "works"]) (B : Bi mg) (T : BkC P w K mg base C)  (c_count : C8.Cal P w K mg base 2 "count" (sp_count K C) []) (c_present_readers : C8.Cal P w K mg base 2 "present_readers" (sp_present_readers K C) []) : C8.Cal P w K mg base 3 "is_short" (sp_is_short K C) [] := by
  refine calD D scShort rfl fun f cdv A outer s H vs Q E S a hr fr ha hp q => ?_
  obtain ⟨b, ws, as, l, _⟩ := a
  obtain ⟨w_book, _, rfl, h_book, w_rows, _, rfl, h_rows, w_absent, _, rfl, h_absent, w_works, _, rfl, h_works, e⟩ := ha
  cases (show _ = [] from e)
  have h_book : (kBk : Kd K C _).rp S H w_book b := h_book
  have h_rows : ((kL (kT kI)) : Kd K C _).rp S H w_rows ws := h_rows
  have h_absent : ((kT kI) : Kd K C _).rp S H w_absent as := h_absent
  have h_works : ((kT kI) : Kd K C _).rp S H w_works l := h_works
  have ok_book := kBk.ok h_book
  have r6_book := ok_book.r6
  have n6_book := ok_book.n6
  have n1_book := ok_book.n1
  have n_rows := kL_len h_rows
  have n_absent := kT_len h_absent
  have n_works := kT_len h_works
  have q : ∀ v H', Same H H' → (kB : Kd K C _).rp S H' v (shortB b ws as l) → Q v H' := q
  obtain ⟨p2, p3⟩ : ws.length = b.rs.length ∧ ∀ z ∈ l, 0 ≤ z ∧ z < b.ds.length := hp
  have pl := presB_len b as
  refine ⟨_, (pss_cons (ps_set (i := 4) scShort.nd rfl (.inr rfl) (C8.pe_mt0 T.dem hr (by decide) (pv 0)))
 (pss_cons (ps_setLc (i := 5) (own := [("reader", 6)]) (g := (gName 6)) (tt := tYes) (te := (tCall (sp_count K C) [] C8.E0 (tCons (tVar 0) (tCons (tVar 1) (tCons (tVar 6) (tCons (tVar 3) tNil)))))) (by rfl) scShort.nd rfl rfl (sw_true rfl rfl rfl (by decide +kernel)) (pi_list (C8.pe_c c_present_readers hr (by decide) (by rfl) (pa_cons (pv 0) (pa_cons (pv 2) pa_nil)))) (blkOk_by (own := [("reader", 6)]) (N := ["book", "rows", "absent", "works", "demands", "counts", "reader", "work"]) (sc := defScope sShort) (by decide +kernel)) (fun _ _ _ _ _ => (pg_name (i := 6) scShort.nd rfl (.inl rfl))) (fun _ _ _ _ _ => pts_nil) (fun _ _ _ _ _ => (C8.pe_c c_count hr (by decide) (by rfl) (pa_cons (pv 0) (pa_cons (pv 1) (pa_cons (pv 6) (pa_cons (pv 3) pa_nil)))))))
 (pss_one (ps_ret (pe_cmpR op_lt (pe_callB (cr_sum rfl) (by rfl) B.sum (by decide +kernel) (pa_cons (pv 5) pa_nil)) (pe_callB (cr_sum rfl) (by rfl) B.sum (by decide +kernel) (pa_cons (pe_lc (own := [("work", 7)]) (g := (gName 7)) (tt := tYes) (te := (tOp (rIxL K) (tVar 4) (tVar 7))) rfl scShort.nd (pi_tup (pv 3)) (blkOk_by (own := [("work", 7)]) (N := ["book", "rows", "absent", "works", "demands", "counts", "reader", "work"]) (sc := defScope sShort) (by decide +kernel)) (fun _ _ _ _ _ => (pg_name (i := 7) scShort.nd rfl (.inl rfl))) (fun _ _ _ _ _ => pts_nil) (fun _ _ _ _ _ => (pe_ix ix_list (pv 4) (pv 7) (fun _ _ => rfl)))) pa_nil)) (nomark _)))))), ?_⟩
  try dsimp only [cxOf, Cx.nox, Cx.wish]
  exact q_setN (evn_dem (ev_var rfl h_book Lf.refl) fr) fun p1 H1_ n1 s1 h1 =>
    q_setN (evn_lc (fr.same s1) (evi_list (EvN.ev (evn_call (eva_cons (ev_var rfl h_book (Lf.same s1)) (eva_cons (ev_var rfl h_absent (Lf.same s1)) eva_nil)) (fr.same s1) trivial))) (by dsimp only; omega) (fun y1 hy1 D1 v1 H1 l1 f1 hv1 => lcb_name rfl evt_yes (fun ht1 => (ev_call (eva_cons (ev_var rfl h_book (Lf.trans (Lf.same s1) l1)) (eva_cons (ev_var rfl h_rows (Lf.trans (Lf.same s1) l1)) (eva_cons (ev_var rfl hv1 Lf.refl) (eva_cons (ev_var rfl h_works (Lf.trans (Lf.same s1) l1)) eva_nil)))) f1 ⟨(presB_mem.mp hy1).1, p2⟩)))) fun p2 H2_ n2 s2 h2 =>
    s_ret (Ev.to (ev_B2 (ev_sum (ev_var rfl h2 Lf.refl)) (ev_sum (EvN.ev (evn_lc ((fr.same s1).same s2) (evi_tup (ev_var rfl h_works (Lf.trans (Lf.same s1) (Lf.same s2)))) n_works (fun y2 hy2 D2 v2 H2 l2 f2 hv2 => lcb_name rfl evt_yes (fun ht2 => (ev_ixL (ev_var rfl h1 (Lf.trans (Lf.same s2) l2)) (ev_var rfl hv2 Lf.refl) (p3 _ hy2)))))))) (by unfold shortB; rw [List.filter_eq_self.mpr (fun _ _ => rfl), List.filter_eq_self.mpr (fun _ _ => rfl)]; rfl)) fun v H' s' r => q v H' (s1.trans (s2.trans s')) r

abbrev sTRead : Stmt := (top 18)
def sp_times_read (K : PySem.W.Frag) (C : Addr) : Sp := spN (K := K) (C := C) (aC kBk (aC (kL (kT kI)) (aC (kT kI) aN))) (kL kI) (fun (b , ws , as , _) => ws.length = b.rs.length) fun (b, ws, as, _) => treadB b ws as
theorem scTRead : FnScope ["book", "rows", "absent", "present", "reader", "work", "row"] ["book", "rows", "absent"] (defScope sTRead) := ⟨rfl, rfl, rfl, by decide +kernel, rfl, by decide +kernel, by decide +kernel⟩
theorem c_times_read (D : DefAt K mg "times_read" sTRead ["book", "rows", "absent"]) (B : Bi mg) (T : BkC P w K mg base C)  (c_present_readers : C8.Cal P w K mg base 2 "present_readers" (sp_present_readers K C) []) : C8.Cal P w K mg base 3 "times_read" (sp_times_read K C) [] := by
  refine calN D scTRead rfl fun f cdv A outer s H vs Q E S a hr fr ha hp q => ?_
  obtain ⟨b, ws, as, _⟩ := a
  obtain ⟨w_book, _, rfl, h_book, w_rows, _, rfl, h_rows, w_absent, _, rfl, h_absent, e⟩ := ha
  cases (show _ = [] from e)
  have h_book : (kBk : Kd K C _).rp S H w_book b := h_book
  have h_rows : ((kL (kT kI)) : Kd K C _).rp S H w_rows ws := h_rows
  have h_absent : ((kT kI) : Kd K C _).rp S H w_absent as := h_absent
  have ok_book := kBk.ok h_book
  have r6_book := ok_book.r6
  have n6_book := ok_book.n6
  have n1_book := ok_book.n1
  have n_rows := kL_len h_rows
  have n_absent := kT_len h_absent
  have q : ∀ p H', H p = none → Same H H' → ((kL kI) : Kd K C _).rp S H' (.ref p) (treadB b ws as) → Q (.ref p) H' := q
  have hp : ws.length = b.rs.length := hp
  have pl := presB_len b as
  refine ⟨_, (pss_cons (ps_set (i := 3) scTRead.nd rfl (.inr rfl) (pe_lc (own := [("reader", 4)]) (g := (gName 4)) (tt := tYes) (te := (tOp (rIxL K) (tVar 1) (tVar 4))) rfl scTRead.nd (pi_list (C8.pe_c c_present_readers hr (by decide) (by rfl) (pa_cons (pv 0) (pa_cons (pv 2) pa_nil)))) (blkOk_by (own := [("reader", 4)]) (N := ["book", "rows", "absent", "present", "reader", "work", "row"]) (sc := defScope sTRead) (by decide +kernel)) (fun _ _ _ _ _ => (pg_name (i := 4) scTRead.nd rfl (.inl rfl))) (fun _ _ _ _ _ => pts_nil) (fun _ _ _ _ _ => (pe_ix ix_list (pv 1) (pv 4) (fun _ _ => rfl)))))
 (pss_one (ps_ret (pe_lc (own := [("work", 5)]) (g := (gName 5)) (tt := tYes) (te := (tCB (rLen K) (tCons (tLc (iList K (tVar 3)) (gName 6) (tTest (tOp (rIn K false) (tVar 5) (tVar 6))) (tVar 6) ([("row", 6)].map (·.2))) tNil))) rfl scTRead.nd (pi_range1 rfl B.range (pa_cons (pe_callB (call_lenBk T hr (by decide)) (by rfl) B.len PySem.boot_len (pa_cons (pv 0) pa_nil)) pa_nil)) (blkOk_by (own := [("work", 5)]) (N := ["book", "rows", "absent", "present", "reader", "work", "row"]) (sc := defScope sTRead) (by decide +kernel)) (fun _ _ _ _ _ => (pg_name (i := 5) scTRead.nd rfl (.inr rfl))) (fun _ _ _ _ _ => pts_nil) (fun _ _ _ _ _ => (pe_callB call_len_seq (by rfl) B.len PySem.boot_len (pa_cons (pe_lc (own := [("row", 6)]) (g := (gName 6)) (tt := (tTest (tOp (rIn K false) (tVar 5) (tVar 6)))) (te := (tVar 6)) rfl scTRead.nd (pi_list (pv 3)) (blkOk_by (own := [("row", 6)]) (N := ["book", "rows", "absent", "present", "reader", "work", "row"]) (sc := _) (by show blkC _ (relS _ (defScope sTRead)) _ _ = true; decide +kernel)) (fun _ _ _ _ _ => (pg_name (i := 6) scTRead.nd rfl (.inl rfl))) (fun _ _ _ _ _ => pts_one (pt_cmpR op_in_seq (pv 5) (pv 6) (by rfl))) (fun _ _ _ _ _ => (pv 6))) pa_nil))))))), ?_⟩
  try dsimp only [cxOf, Cx.nox, Cx.wish]
  exact q_setN (evn_lc fr (evi_list (EvN.ev (evn_call (eva_cons (ev_var rfl h_book Lf.refl) (eva_cons (ev_var rfl h_absent Lf.refl) eva_nil)) fr trivial))) (by dsimp only; omega) (fun y1 hy1 D1 v1 H1 l1 f1 hv1 => lcb_name rfl evt_yes (fun ht1 => (ev_ixL (ev_var rfl h_rows l1) (ev_var rfl hv1 Lf.refl) (by have := presB_mem.mp hy1; omega))))) fun p1 H1_ n1 s1 h1 =>
    s_retN (EvN.to (evn_lc (fr.same s1) (evi_rng (ev_lenBk (ev_var rfl h_book (Lf.same s1))) (by first | omega | (dsimp only; omega)) (by first | omega | (dsimp only; omega))) (by first | (rw [iota_len]; omega) | exact kL_len h1) (fun y2 hy2 D2 v2 H2 l2 f2 hv2 => lcb_name rfl evt_yes (fun ht2 => (ev_len (EvN.ev (evn_lc f2 (evi_list (ev_var rfl h1 l2)) (by first | (rw [iota_len]; omega) | exact kL_len h1) (fun y3 hy3 D3 v3 H3 l3 f3 hv3 => lcb_name rfl (evt_test (ev_in (ev_var rfl hv2 l3) (ev_var rfl hv3 Lf.refl) IsSq.t)) (fun ht3 => (ev_var rfl hv3 Lf.refl))))) IsSq.l)))) (by unfold treadB; rw [List.filter_eq_self.mpr (fun _ _ => rfl), List.filter_eq_self.mpr (fun _ _ => rfl)]; exact List.map_congr_left fun x _ => by rw [List.map_id']; rfl)) fun p H' n s' r => q p H' (s1.free n) (s1.trans s') r

abbrev sWithout : Stmt := (top 28)
def sp_without (K : PySem.W.Frag) (C : Addr) : Sp := spN (K := K) (C := C) (aC (kL (kT kI)) (aC (kT kI) aN)) (kL (kT kI)) (fun (ws , as , _) => True) fun (ws, as, _) => withB ws as
theorem scWithout : FnScope ["rows", "absent", "reader", "row"] ["rows", "absent"] (defScope sWithout) := ⟨rfl, rfl, rfl, by decide +kernel, rfl, by decide +kernel, by decide +kernel⟩
theorem c_without (D : DefAt K mg "without" sWithout ["rows", "absent"]) (B : Bi mg) (T : BkC P w K mg base C)   : C8.Cal P w K mg base 1 "without" (sp_without K C) [] := by
  refine calN D scWithout rfl fun f cdv A outer s H vs Q E S a hr fr ha hp q => ?_
  obtain ⟨ws, as, _⟩ := a
  obtain ⟨w_rows, _, rfl, h_rows, w_absent, _, rfl, h_absent, e⟩ := ha
  cases (show _ = [] from e)
  have h_rows : ((kL (kT kI)) : Kd K C _).rp S H w_rows ws := h_rows
  have h_absent : ((kT kI) : Kd K C _).rp S H w_absent as := h_absent
  have n_rows := kL_len h_rows
  have n_absent := kT_len h_absent
  have q : ∀ p H', H p = none → Same H H' → ((kL (kT kI)) : Kd K C _).rp S H' (.ref p) (withB ws as) → Q (.ref p) H' := q

  refine ⟨_, (pss_one (ps_ret (pe_lc (own := [("reader", 2), ("row", 3)]) (g := (gTup K 2 (gCons (gName 2) (gCons (gName 3) gNil)))) (tt := tYes) (te := (tIf (tTest (tOp (rIn K false) (tVar 2) (tVar 1))) (tTup tNil) (tVar 3))) rfl scWithout.nd (pi_enum (by rfl) B.enumerate (pa_cons (pv 0) pa_nil)) (blkOk_by (own := [("reader", 2), ("row", 3)]) (N := ["rows", "absent", "reader", "row"]) (sc := defScope sWithout) (by decide +kernel)) (fun _ _ _ _ _ => (pg_tup (by rfl) (pgs_cons (pg_name (i := 2) scWithout.nd rfl (.inl rfl)) (pgs_cons (pg_name (i := 3) scWithout.nd rfl (.inl rfl)) pgs_nil)))) (fun _ _ _ _ _ => pts_nil) (fun _ _ _ _ _ => (pe_ifExp (pt_cmpR op_in_seq (pv 2) (pv 1) (by rfl)) (pe_tup pa_nil) (pv 3)))))), ?_⟩
  try dsimp only [cxOf, Cx.nox, Cx.wish]
  exact s_retN (EvN.to (evn_lc fr (evi_enum (ev_var rfl h_rows Lf.refl)) (by rw [enum_len]; exact n_rows) (fun y1 hy1 D1 v1 H1 l1 f1 hv1 => lcb_pair hv1 fun w10 w11 hw10 hw11 => ⟨rfl, evt_yes, fun ht1 => (ev_if (evt_test (ev_in (ev_var rfl hw10 Lf.refl) (ev_var rfl h_absent l1) IsSq.t)) (fun hc => (ev_t0 (k := (kI : Kd K C _)))) (fun hc => (ev_var rfl hw11 Lf.refl)))⟩)) (by unfold withB; rw [List.filter_eq_self.mpr (fun _ _ => rfl)])) fun p H' n s' r => q p H' n s' r

abbrev sSetsW : Stmt := (top 9)
def sp_sets_of_works (K : PySem.W.Frag) (C : Addr) : Sp := spN (K := K) (C := C) (aC kI aN) (kL (kT kI)) (fun a => 0 ≤ a.1 ∧ a.1 ≤ 6) fun a => allSets a.1.toNat
theorem scSetsW : FnScope ["many", "found", "work", "works"] ["many"] (defScope sSetsW) := ⟨rfl, rfl, rfl, by decide +kernel, rfl, by decide +kernel, by decide +kernel⟩
theorem c_sets_of_works (D : DefAt K mg "sets_of_works" sSetsW ["many"]) (B : Bi mg) : C8.Cal P w K mg base 1 "sets_of_works" (sp_sets_of_works K C) [] := by
  refine calN D scSetsW rfl fun f cdv A outer s H vs Q E S a hr fr ha hp q => ?_
  obtain ⟨n, _⟩ := a
  obtain ⟨wn, _, rfl, hn, e⟩ := ha
  cases (show _ = [] from e)
  cases (show wn = .int n from hn)
  obtain ⟨n0, n6⟩ : 0 ≤ n ∧ n ≤ 6 := hp
  obtain ⟨n, rfl⟩ : ∃ m : Nat, n = (m : Int) := ⟨n.toNat, by omega⟩
  have q : ∀ p H', H p = none → Same H H' → (kL (kT kI) : Kd K C _).rp S H' (.ref p) (allSets n) → Q (.ref p) H' := q
  have h_many : (kI : Kd K C _).rp S H (.int (n : Int)) (n : Int) := rfl
  refine ⟨_, (pss_cons (ps_set (i := 1) scSetsW.nd rfl (.inl rfl) (pe_lst (pa_cons (pe_tup pa_nil) pa_nil)))
 (pss_cons (ps_for PassesOwn.never rfl (pi_range1 rfl B.range (pa_cons (pv 0) pa_nil)) (pg_name (i := 2) scSetsW.nd rfl (.inr rfl)) (pss_one (ps_set (i := 1) scSetsW.nd rfl (.inl rfl) (pe_op op_cat (pv 1) (pe_lc (own := [("works", 3)]) (g := (gName 3)) (tt := tYes) (te := (tOp (rCat1 K) (tVar 3) (tTup (tCons (tVar 2) tNil)))) rfl scSetsW.nd (pi_list (pv 1)) (blkOk_by (own := [("works", 3)]) (N := ["many", "found", "work", "works"]) (sc := defScope sSetsW) (by decide +kernel)) (fun _ _ _ _ _ => (pg_name (i := 3) scSetsW.nd rfl (.inl rfl))) (fun _ _ _ _ _ => pts_nil) (fun _ _ _ _ _ => (pe_op op_cat1 (pv 3) (pe_tup (pa_cons (pv 2) pa_nil)))))))))
 (pss_one (ps_ret (pe_slice sl_list (pv 1) (po_some pe_int) po_none))))), ?_⟩
  try dsimp only [cxOf, Cx.nox, Cx.wish]
  refine q_setN (evn_l1 (ev_t0 (k := (kI : Kd K C _))) fr) fun p H1 np s1 h1 => ?_
  refine s_for (kx := kI) (S := S) (evi_rng (ev_var rfl h_many (.same s1)) (by omega) (by omega)) fun H2 s2 => ⟨fun i σ' H' => ∃ y_work w_found, σ' = [some (.int (n : Int)), some w_found, y_work, none] ∧ Same H2 H' ∧ (kL (kT kI) : Kd K C _).rp S H' w_found (setsF i), ⟨none, _, rfl, Same.refl _, (kL (kT kI) : Kd K C _).same s2 h1⟩, fun i σ' H' ⟨_, _, _, h, _⟩ => Lf.same h, ?_, ?_⟩
  · rintro i x σ' H' v H'' hx ⟨y_work, w_found, rfl, sI, hf⟩ sX hv
    obtain ⟨rfl, hin⟩ := iota_at hx
    have fI := (((fr.same s1).same s2).same sI).same sX
    have hf := (kL (kT kI) : Kd K C _).same sX hf
    have hi6 : i ≤ 5 := by omega
    have hl : (setsF i).length ≤ 32 := by rw [setsF_len]; exact Nat.le_trans (Nat.pow_le_pow_right (by decide) hi6) (by decide)
    refine s_setN (k := (kL (kT kI) : Kd K C _)) (S := S) (EvN.to (x' := setsF (i + 1)) (evn_catL (ev_var rfl hf Lf.refl) (EvN.ev (evn_lc fI (evi_list (ev_var rfl hf Lf.refl)) (by omega) (fun y1 hy1 D1 v1 H1' l1 f1 hv1 => lcb_name rfl evt_yes (fun ht1 => ev_catT (ev_var rfl hv1 Lf.refl) (ev_t1 (ev_var rfl hv l1)) (by have := kT_len hv1; have := nd_len (nodup_asc (setsF_mem.mp hy1).1) (setsF_mem.mp hy1).2; simp; omega))))) fI (by rw [List.filter_eq_self.mpr (fun _ _ => rfl), List.length_map]; omega)) (by rw [setsF, List.filter_eq_self.mpr (fun _ _ => rfl)])) fun p2 H3 n2 s3 h3 => ?_
    exact ⟨_, _, rfl, sI.trans (sX.trans s3), h3⟩
  · rintro σ' H' ⟨y_work, w_found, rfl, sI, hf⟩
    try dsimp only
    rw [iota_len, Int.toNat_natCast] at hf
    obtain ⟨a, us, rfl, na, hA, hP, hl⟩ := hf
    refine ⟨_, rfl, 1, rfl, a, us, rfl, .inl (.inl hA), fun c nc => ?_⟩
    rw [show cutV us (some 1) none = us.drop 1 from cut_from us 1]
    have sF := s1.trans (s2.trans sI)
    have fF := fr.same sF
    exact q c _ (sF.free nc) (sF.trans (sameU nc)) ⟨c, _, rfl, fF.out nc, upd_same, Paired.drop 1 (L2.Paired.mapP hP fun _ _ z => (kT kI : Kd K C _).same (sameU nc) z), Nat.le_trans (by unfold allSets; rw [List.length_drop]; omega) hl⟩
end
end Ew
namespace Ew
open PySem PySem.Spec PyProof.Rows L2
section
variable {K : PySem.W.Frag} {C : Addr} {α β : Type} {k : Kd K C α} {k1 : Kd K C β} {S : List Addr} {H : Hp} {σ : L2.St} {ta tb te : TE} {x : α}
theorem ev_isB {c a : Bool} (h : Ev (K := K) (C := C) kB S H te σ a) : Ev (K := K) (C := C) kB S H (tOp rIsB te (tC (.bl c))) σ (decide (a = c)) :=
  ev_op2 h ev_bl fun v w H1 _ e1 e2 Q q => ⟨a, c, e1, e2, q _ H1 (Same.refl _) rfl⟩
theorem ev_notB {c a : Bool} (h : Ev (K := K) (C := C) kB S H te σ a) : Ev (K := K) (C := C) kB S H (tOp rNotB te (tC (.bl c))) σ (!decide (a = c)) :=
  ev_op2 h ev_bl fun v w H1 _ e1 e2 Q q => ⟨a, c, e1, e2, q _ H1 (Same.refl _) rfl⟩
abbrev rInt1 : List V → Hp → VK → Prop := fun xs H Q => (∃ i, xs = [.int i] ∧ Q (.int i) H) ∨ ∃ k, xs = [.bl k] ∧ Q (.int (if k then 1 else 0)) H
theorem ev_intB {a : Bool} (h : Ev (K := K) (C := C) kB S H te σ a) : Ev (K := K) (C := C) kI S H (tCB rInt1 (tCons te tNil)) σ (if a then 1 else 0) :=
  ev_cb (eva_cons h eva_nil) fun vs H1 _ rv Q q => by
    obtain ⟨v, r, rfl, h, e⟩ := rv
    cases (show r = [] from e)
    cases (show v = .bl a from h)
    exact .inr ⟨a, rfl, q _ H1 (Same.refl _) rfl⟩
theorem ev_intI {a : Int} (h : Ev (K := K) (C := C) kI S H te σ a) : Ev (K := K) (C := C) kI S H (tCB rInt1 (tCons te tNil)) σ a :=
  ev_cb (eva_cons h eva_nil) fun vs H1 _ rv Q q => by
    obtain ⟨v, r, rfl, h, e⟩ := rv
    cases (show r = [] from e)
    cases (show v = .int a from h)
    exact .inl ⟨a, rfl, q _ H1 (Same.refl _) rfl⟩
theorem bt_kW {a b : Str} : ∀ (S : List Addr) (H : Hp) (v : V) (x : α ⊕ β), (kW a b k k1).rp S H v x → Bt K H v "tuple" := fun S H v x h => by
  obtain ⟨t, w, rfl, h⟩ := h
  cases x with
  | inl y => exact bt_tup h.1
  | inr y => exact bt_tup h.1
theorem ev_lenW {a b : Str} {y : α ⊕ β} (h : Ev (kW a b k k1) S H ta σ y) : Ev (K := K) (C := C) kI S H (tCB (rLen K) (tCons ta tNil)) σ 2 :=
  ev_cb (eva_cons h eva_nil) fun vs H1 _ rv Q q => by
    obtain ⟨v, r, rfl, ⟨t, w, rfl, h⟩, e⟩ := rv
    cases (show r = [] from e)
    cases y with
    | inl y => exact ⟨t, _, rfl, .inr h.1, q _ H1 (Same.refl _) rfl⟩
    | inr y => exact ⟨t, _, rfl, .inr h.1, q _ H1 (Same.refl _) rfl⟩
def pLink : KPy (kLink (K := K) (C := C)) 1 := p3 pI pI pOI
def pStep : KPy (kStep (K := K) (C := C)) 4 := pW (pL pLink) (pT pI) (by decide +kernel) (by decide +kernel) (by decide +kernel)
abbrev stepKs : Ka K C (Bk × List (List Int) × List (List Int) × List Int × Int × Unit) := aC kBk (aC kWs (aC kWs (aC (kT kI) (aC kI aN))))
theorem ev_step {b : Bk} {kw ws : List (List Int)} {as : List Int} {z : Int} {t : TA} (ha : EvA (stepKs (K := K) (C := C)) S H t σ (b, kw, ws, as, z, ())) (fr : Fr C S H) (hp : RowsIn b ws ∧ kw.length = ws.length ∧ 0 ≤ z ∧ z < b.ds.length) : Ev (kStep (K := K) (C := C)) S H (tCall (sp_step K C) [] C8.E0 t) σ (stepB b kw ws as z) := fun H1 s Q q => ha H1 s _ fun vs H2 s2 rv => by
  show sp_step K C (vs ++ []) H2 Q _
  rw [List.append_nil]
  exact ⟨S, _, fr.same (s.trans s2), rv, hp, fun v H3 s3 r _ => q v H3 (s2.trans s3) r⟩
theorem q_step {b : Bk} {kw ws : List (List Int)} {as : List Int} {z : Int} {t : TA} {D : Ends} {u : TS} {i : Nat} (ha : EvA (stepKs (K := K) (C := C)) S H t σ (b, kw, ws, as, z, ())) (fr : Fr C S H) (hp : RowsIn b ws ∧ kw.length = ws.length ∧ 0 ≤ z ∧ z < b.ds.length)
    (q : ∀ v H2, Same H H2 → (kStep (K := K) (C := C)).rp S H2 v (stepB b kw ws as z) → (∀ ch, stepB b kw ws as z = .inl ch → ∃ t p, v = .ref t ∧ H2 t = some (.tup [.str "chain", .ref p]) ∧ H p = none ∧ (kLinks (K := K) (C := C)).rp S H2 (.ref p) ch) → u D (σ.set i (some v)) H2) :
    tSeq (tAsg (tCall (sp_step K C) [] C8.E0 t) (gName i)) u D σ H := ha.use fun vs H2 s2 rv => by
  show sp_step K C (vs ++ []) H2 _ _
  rw [List.append_nil]
  exact ⟨S, _, fr.same s2, rv, hp, fun v H3 s3 r hc => q v H3 (s2.trans s3) r fun ch e => let ⟨t, p, h1, h2, h3, h4⟩ := hc ch e; ⟨t, p, h1, h2, s2.free h3, h4⟩⟩
end
theorem kLink_any {K : PySem.W.Frag} {C : Addr} {S T : List Addr} {H : Hp} {v : V} {x : Link} (h : (kLink (K := K) (C := C)).rp S H v x) : (kLink (K := K) (C := C)).rp T H v x := by
  obtain ⟨t, v1, v2, v3, e, q, h1, h2, h3⟩ := h
  refine ⟨t, v1, v2, v3, e, q, h1, h2, ?_⟩
  cases hx : x.2.2 with
  | none => rw [hx] at h3; exact h3
  | some g => rw [hx] at h3; exact h3
theorem ev_slInit {K : PySem.W.Frag} {C : Addr} {α : Type} {k : Kd K C α} {S : List Addr} {H : Hp} {σ : L2.St} {i : Nat} {p : Addr} {vs : List V} {y : V} {l : List α} (e : σ[i]? = some (some (.ref p))) (hp : H p = some (.lst (vs ++ [y]))) (hP : Paired (k.rp S H) vs l) (hl : l.length ≤ 1000000) (fr : Fr C S H) :
    Ev (kL k) S H (tSl (rSlL K) (tVar i) tNoPart (tPart (tUn (rU fun i => .int (-i)) (tC (.int 1))))) σ l := fun H1 s Q q => by
  refine ⟨_, e, 1, rfl, -1, rfl, p, _, rfl, .inl (.inl (s _ _ hp)), fun c nc => ?_⟩
  have ec : cutV (vs ++ [y]) none (some (-1)) = vs := by
    unfold cutV
    have e1 : HT.sIx (vs ++ [y]).length 0 none = 0 := rfl
    have e2 : HT.sIx (vs ++ [y]).length (vs ++ [y]).length (some (-1)) = vs.length := by
      show (if (-1 : Int) < 0 then ((-1 : Int) + ((vs ++ [y]).length : Nat)).toNat else min (-1 : Int).toNat (vs ++ [y]).length) = _
      rw [if_pos (by omega), List.length_append, List.length_singleton]
      omega
    rw [e1, e2, List.drop_zero, Nat.sub_zero, List.take_append_of_le_length (Nat.le_refl _), List.take_length]
  rw [ec]
  exact q _ _ (sameU nc) ⟨c, vs, rfl, (fr.same s).out nc, upd_same, L2.Paired.mapP hP fun _ _ z => k.same (s.trans (sameU nc)) z, hl⟩
theorem neT {α : Type} [DecidableEq α] {x y : α} (h : x = y) : ¬ (!decide (x = y)) = true := by rw [decide_eq_true h]; simp
theorem times_after {f ws : List (List Int)} {z n : Int} (h : ∀ x : Int, cntW f x = cntW ws x + one_ (x = z)) : timesE f n = List.map (fun y : Int × Int => y.2 + (if decide (y.1 = z) = true then 1 else 0)) (List.filter (fun _ => true) (enum (timesE ws n))) := by
  unfold timesE
  rw [List.filter_eq_self.mpr (fun _ _ => rfl), enum_map, List.map_map]
  refine List.map_congr_left fun x _ => ?_
  rw [h x]
  show _ = cntW ws x + (if decide (x = z) = true then 1 else 0)
  unfold one_
  simp
end Ew
namespace Ew
open PySem PySem.Spec PyProof.Rows L2
theorem chain_readers {b : Bk} {kw ws : List (List Int)} {as : List Int} : ∀ {ls : List Link} {z : Option Int} {e : List Int}, chainB b kw ws as ls z e = true → ∀ l ∈ ls, 0 ≤ l.1 ∧ l.1 < b.rs.length
  | [], _, _, _, _, h => nomatch h
  | l :: ls, z, e, h, l', hl => by
    rw [chainB] at h
    by_cases hb : (!linkB b kw ws as z l || decide (l.1 ∈ e)) = true
    · rw [if_pos hb] at h
      cases h
    · rw [if_neg hb] at h
      simp only [Bool.or_eq_true, Bool.not_eq_true', decide_eq_true_eq, not_or, Bool.not_eq_false] at hb
      rcases List.mem_cons.mp hl with rfl | hl
      · exact (link_parts hb.1).2.1
      · exact chain_readers h l' hl
section
variable {K : PySem.W.Frag} {C : Addr} {α : Type} {k : Kd K C α} {S : List Addr} {H : Hp} {σ : L2.St} {te : TE} {x : α}
theorem s_asg {g : TG} {D : Ends} (h : Ev k S H te σ x) (q : ∀ v H2, Same H H2 → k.rp S H2 v x → g v σ H2 D.nx) : tAsg te g D σ H := h.use q
/-- t[1] of a tuple that stands -/
theorem ev_tupAt {i : Nat} {t : Addr} {u v : V} (e : σ[i]? = some (some (.ref t))) (hT : SqT K H t [u, v]) (hv : k.rp S H v x) : Ev k S H (tOp (rIxT K) (tVar i) (tC (.int 1))) σ x := fun H1 s Q q =>
  ⟨_, e, t, _, 1, v, rfl, rfl, sameT s hT, rfl, q v H1 (Same.refl _) (k.same s hv)⟩
end
section
variable {P : Program} {w : World} {K : PySem.W.Frag} {mg : Str → Option Value} {base : Heap} {C : Addr}
abbrev sWalked : Stmt := (top 29)
def sp_walked (K : PySem.W.Frag) (C : Addr) : Sp := spN (K := K) (C := C) (aC kWs (aC kLinks aN)) kWs (fun a => (∀ l ∈ a.2.1, 0 ≤ l.1 ∧ l.1 < a.1.length) ∧ ∀ w ∈ a.1, w.length ≤ 60) fun a => walkB a.1 a.2.1 a.1
theorem scWalked : FnScope ["rows", "chain", "behind", "reader", "takes", "gives", "work"] ["rows", "chain"] (defScope sWalked) := ⟨rfl, rfl, rfl, by decide +kernel, rfl, by decide +kernel, by decide +kernel⟩
theorem c_walked (D : DefAt K mg "walked" sWalked ["rows", "chain"]) (B : Bi mg) : C8.Cal P w K mg base 1 "walked" (sp_walked K C) [] := by
  refine calN D scWalked rfl fun f cdv A outer s H vs Q E S a hr fr ha hp q => ?_
  obtain ⟨ws, ls, _⟩ := a
  obtain ⟨w_rows, _, rfl, h_rows, w_chain, _, rfl, h_chain, e⟩ := ha
  cases (show _ = [] from e)
  obtain ⟨hin, h60⟩ : (∀ l ∈ ls, 0 ≤ l.1 ∧ l.1 < ws.length) ∧ ∀ w ∈ ws, w.length ≤ 60 := hp
  have h_rows : (kWs : Kd K C _).rp S H w_rows ws := h_rows
  have h_chain : (kLinks : Kd K C _).rp S H w_chain ls := h_chain
  have wlen := kL_len h_rows
  have q : ∀ p H', H p = none → Same H H' → (kWs : Kd K C _).rp S H' (.ref p) (walkB ws ls ws) → Q (.ref p) H' := q
  refine ⟨_, (pss_cons (ps_set (i := 2) scWalked.nd rfl (.inl rfl) (pe_callTy call_list_of (by rfl) B.list (by decide +kernel) (pa_cons (pv 0) pa_nil)))
 (pss_cons (ps_for PassesOwn.never rfl (pi_list (pv 1)) (pg_tup (by rfl) (pgs_cons (pg_name (i := 3) scWalked.nd rfl (.inl rfl)) (pgs_cons (pg_name (i := 4) scWalked.nd rfl (.inl rfl)) (pgs_cons (pg_name (i := 5) scWalked.nd rfl (.inr rfl)) pgs_nil)))) (pss_one (ps_asg (pe_callTy call_tuple_of (by rfl) B.tuple (by decide +kernel) (pa_cons (pe_callB cr_sorted (by rfl) B.sorted (by decide +kernel) (pa_cons (pe_op op_cat (pe_lc (own := [("work", 6)]) (g := (gName 6)) (tt := (tTest (tOp rNe (tVar 6) (tVar 5)))) (te := (tVar 6)) rfl scWalked.nd (pi_tup (pe_ix ix_list (pv 0) (pv 3) (fun _ _ => rfl))) (blkOk_by (own := [("work", 6)]) (N := ["rows", "chain", "behind", "reader", "takes", "gives", "work"]) (sc := defScope sWalked) (by decide +kernel)) (fun _ _ _ _ _ => (pg_name (i := 6) scWalked.nd rfl (.inl rfl))) (fun _ _ _ _ _ => pts_one (pt_cmpR op_ne (pv 6) (pv 5) (nomark _))) (fun _ _ _ _ _ => (pv 6))) (pe_lst (pa_cons (pv 4) pa_nil))) pa_nil)) pa_nil)) (pg_sub (pv 2) (pv 3) set_list))))
 (pss_one (ps_ret (pv 2))))), ?_⟩
  try dsimp only [cxOf, Cx.nox, Cx.wish]
  refine q_setN (evn_copy (ev_var rfl h_rows Lf.refl) IsSq.l fr) fun p H1 np s1 hf => ?_
  obtain ⟨p', vf, hpe, hpn, hp1, hpP, _⟩ := hf
  cases hpe
  have lf : ∀ Hc, Same H Hc → Lf K C S H (p :: S) Hc := fun Hc s => ⟨fun k v x h => k.same s (k.new np h), s.tab⟩
  have f1 : Fr C (p :: S) H1 := fun a m => by
    rcases List.mem_cons.mp m with rfl | m
    · exact ⟨_, hp1, trivial⟩
    · exact (fr.same s1) a m
  refine s_for (kx := kLink) (S := p :: S) (evi_list (ev_var rfl h_chain (lf H1 s1))) fun H4 s4 => ⟨fun i σ' H' => ∃ y3 y4 y5 vs f0, σ' = [some w_rows, some w_chain, some (.ref p), y3, y4, y5, none] ∧ Same H H' ∧ Fr C (p :: S) H' ∧ Lf K C (p :: S) H4 (p :: S) H' ∧ H' p = some (.lst vs) ∧ Paired ((kT kI : Kd K C _).rp (p :: S) H') vs f0 ∧ f0.length = ws.length ∧ walkB ws ls ws = walkB ws (ls.drop i) f0,
    ⟨none, none, none, vf, ws, rfl, s1.trans s4, f1.same s4, Lf.refl, s4 _ _ hp1, L2.Paired.mapP hpP fun _ _ z => kTI_any ((kT kI : Kd K C _).same s4 z), rfl, rfl⟩, fun i σ' H' h => let ⟨_, _, _, _, _, _, _, _, l, _⟩ := h; l, ?_, ?_⟩
  · rintro i l σ' H' v H'' hx ⟨y3, y4, y5, vs, f0, rfl, sc, fc, lc, hpe, hpP', hfl, hwk⟩ sx hv
    have hil : i < ls.length := by
      rcases Nat.lt_or_ge i ls.length with h | h
      · exact h
      · rw [List.getElem?_eq_none h] at hx; cases hx
    have hdrop : ls.drop i = l :: ls.drop (i + 1) := by
      rw [List.drop_eq_getElem_cons hil]
      rw [List.getElem?_eq_getElem hil] at hx
      cases hx
      rfl
    rw [hdrop, walkB] at hwk
    have hi0 := hin l (List.mem_of_getElem? hx)
    refine gt3 hv fun a1 a2 a3 ha1 ha2 ha3 => ?_
    cases (show a1 = .int l.1 from ha1)
    have sca := sc.trans sx
    have fa := fc.same sx
    have b1 : (kI : Kd K C _).rp S H'' (.int l.1) l.1 := rfl
    have b2 : (kI : Kd K C _).rp S H'' a2 l.2.1 := ha2
    have b3 : (kO kI : Kd K C _).rp S H'' a3 l.2.2 := (kO kI : Kd K C _).less (fun a m => by simp [m]) ha3
    refine s_asg (ev_tup (EvN.ev (evn_sortL (EvN.ev (evn_catL (EvN.ev (evn_lc (fr.same sca) (evi_tup (ev_ixL (ev_var rfl h_rows (Lf.same sca)) (ev_var rfl b1 Lf.refl) hi0)) (kWs_len h_rows _ (at_mem hi0)) (fun y1 hy1 D1 v1 H1 l1 f1 hv1 => lcb_name rfl (evt_test (ev_neO (ev_var rfl hv1 Lf.refl) (ev_var rfl b3 l1))) (fun ht1 => (ev_var rfl hv1 Lf.refl))))) (EvN.ev (evn_l1 (ev_var rfl b2 Lf.refl) (fr.same sca))) (fr.same sca) (by rw [List.length_map]; have := List.length_filter_le (fun o => !decide (some o = l.2.2)) (at_ ws l.1); have := h60 _ (at_mem hi0); simp only [List.length_singleton]; omega))) (fr.same sca) (by rw [List.length_append, List.length_map]; have := List.length_filter_le (fun o => !decide (some o = l.2.2)) (at_ ws l.1); have := h60 _ (at_mem hi0); simp only [List.length_singleton]; omega))) IsSq.l) fun u Hb sb hu => ?_
    have hpeb := sb _ _ (sx _ _ hpe)
    have hvl : vs.length = f0.length := pLen hpP'
    have fb := fa.same sb
    have sxb : Sx C (p :: S) Hb (upd Hb p (.lst (vs.set l.1.toNat u))) := sx_upd fb (by simp) trivial
    refine ⟨_, rfl, _, rfl, p, vs, l.1, l.1.toNat, rfl, rfl, hpeb, ?_, ?_⟩
    · unfold ixN
      rw [if_pos hi0.1, if_pos (by rw [hvl, hfl]; exact hi0.2)]
    rw [List.map_id'] at hu
    have hu' : (kT kI : Kd K C _).rp (p :: S) (upd Hb p (.lst (vs.set l.1.toNat u))) u (newRow (at_ ws l.1) l) := (kT kI : Kd K C _).sx fb sxb (kTI_any hu)
    have hset : Paired ((kT kI : Kd K C _).rp (p :: S) (upd Hb p (.lst (vs.set l.1.toNat u)))) (vs.set l.1.toNat u) (f0.set l.1.toNat (newRow (at_ ws l.1) l)) := Paired.set' _ (L2.Paired.mapP hpP' fun _ _ z => (kT kI : Kd K C _).sx fb sxb ((kT kI : Kd K C _).same (sx.trans sb) z)) hu'
    exact ⟨_, _, _, vs.set l.1.toNat u, f0.set l.1.toNat (newRow (at_ ws l.1) l), rfl, sameOwn (sca.trans sb) np, sxb.fr, lc.trans ((Lf.same (sx.trans sb)).trans (.sx fb sxb)), upd_same, hset, by rw [List.length_set]; exact hfl, hwk⟩
  · rintro σ' H' ⟨y3, y4, y5, vs, f0, rfl, sc, fc, lc, hpe, hpP', hfl, hwk⟩
    rw [List.drop_length] at hwk
    refine ⟨_, rfl, ?_⟩
    refine q p H' np sc ?_
    rw [hwk]
    exact ⟨p, vs, rfl, hpn, hpe, L2.Paired.mapP hpP' fun _ _ z => kTI_any z, by rw [walkB, hfl]; exact wlen⟩

abbrev sExtended : Stmt := (top 30)
def sp_extended (K : PySem.W.Frag) (C : Addr) : Sp := spN (K := K) (C := C) (aC kBk (aC kWs (aC (kT kI) aN))) kWs (fun a => RowsOk a.1 a.2.1 ∧ ∀ l ∈ allSets a.1.ds.length, shortB a.1 a.2.1 a.2.2.1 l = false) fun a => extendedB a.1 a.2.1 a.2.2.1
theorem scExtended : FnScope ["book", "rows", "absent", "kept", "behind", "demands", "work", "times", "_", "found"] ["book", "rows", "absent"] (defScope sExtended) := ⟨rfl, rfl, rfl, by decide +kernel, rfl, by decide +kernel, by decide +kernel⟩
theorem c_extended (D : DefAt K mg "extended" sExtended ["book", "rows", "absent"]) (B : Bi mg) (T : BkC P w K mg base C) (c_without : C8.Cal P w K mg base 1 "without" (sp_without K C) []) (c_times_read : C8.Cal P w K mg base 3 "times_read" (sp_times_read K C) []) (c_step : C8.Cal P w K mg base 4 "step" (sp_step K C) []) (c_walked : C8.Cal P w K mg base 1 "walked" (sp_walked K C) []) : C8.Cal P w K mg base 5 "extended" (sp_extended K C) [] := by
  refine calN D scExtended rfl fun f cdv A outer s H vs Q E S a hr fr ha hp q => ?_
  obtain ⟨b, ws, as, _⟩ := a
  obtain ⟨w_book, _, rfl, h_book, w_rows, _, rfl, h_rows, w_absent, _, rfl, h_absent, e⟩ := ha
  cases (show _ = [] from e)
  obtain ⟨hws, hns⟩ : RowsOk b ws ∧ ∀ l ∈ allSets b.ds.length, shortB b ws as l = false := hp
  have h_book : (kBk : Kd K C _).rp S H w_book b := h_book
  have h_rows : (kWs : Kd K C _).rp S H w_rows ws := h_rows
  have h_absent : (kT kI : Kd K C _).rp S H w_absent as := h_absent
  have ok := kBk.ok h_book
  have n6 := ok.n6
  have r6 := ok.r6
  have q : ∀ p H', H p = none → Same H H' → (kWs : Kd K C _).rp S H' (.ref p) (extendedB b ws as) → Q (.ref p) H' := q
  have st0 := with_st (as := as) ok hws
  refine ⟨_, (pss_cons (ps_set (i := 3) scExtended.nd rfl (.inl rfl) (C8.pe_c c_without hr (by decide) (by rfl) (pa_cons (pv 1) (pa_cons (pv 2) pa_nil))))
 (pss_cons (ps_set (i := 4) scExtended.nd rfl (.inl rfl) (pe_callTy call_list_of (by rfl) B.list (by decide +kernel) (pa_cons (pv 3) pa_nil)))
 (pss_cons (ps_set (i := 5) scExtended.nd rfl (.inl rfl) (C8.pe_mt0 T.dem hr (by decide) (pv 0)))
 (pss_cons (ps_for PassesOwn.never rfl (pi_enum (by rfl) B.enumerate (pa_cons (C8.pe_c c_times_read hr (by decide) (by rfl) (pa_cons (pv 0) (pa_cons (pv 3) (pa_cons (pv 2) pa_nil)))) pa_nil)) (pg_tup (by rfl) (pgs_cons (pg_name (i := 6) scExtended.nd rfl (.inl rfl)) (pgs_cons (pg_name (i := 7) scExtended.nd rfl (.inl rfl)) pgs_nil))) (pss_one (ps_for PassesOwn.never rfl (pi_range1 rfl B.range (pa_cons (pe_op op_sub (pe_ix ix_list (pv 5) (pv 6) (fun _ _ => rfl)) (pv 7)) pa_nil)) (pg_name (i := 8) scExtended.nd rfl (.inl rfl)) (pss_cons (ps_set (i := 9) scExtended.nd rfl (.inl rfl) (C8.pe_c c_step hr (by decide) (by rfl) (pa_cons (pv 0) (pa_cons (pv 3) (pa_cons (pv 4) (pa_cons (pv 2) (pa_cons (pv 6) pa_nil)))))))
 (pss_one (ps_set (i := 4) scExtended.nd rfl (.inl rfl) (C8.pe_c c_walked hr (by decide) (by rfl) (pa_cons (pv 4) (pa_cons (pe_ix ix_tup (pv 9) pe_int (fun _ _ => rfl)) pa_nil)))))))))
 (pss_one (ps_ret (pv 4))))))), ?_⟩
  try dsimp only [cxOf, Cx.nox, Cx.wish]
  refine q_setN (evn_call (eva_cons (ev_var rfl h_rows Lf.refl) (eva_cons (ev_var rfl h_absent Lf.refl) eva_nil)) fr trivial) fun p1 H1 n1 s1 h_kept => ?_
  have h_kept : (kWs : Kd K C _).rp S H1 (.ref p1) (withB ws as) := h_kept
  refine q_setN (evn_copy (ev_var rfl h_kept Lf.refl) IsSq.l (fr.same s1)) fun p2 H2 n2 s2 h2 => ?_
  refine q_setN (evn_dem (ev_var rfl h_book (.same (s1.trans s2))) (fr.same (s1.trans s2))) fun p3 H3 n3 s3 h_demands => ?_
  have s03 := s1.trans (s2.trans s3)
  have fr3 := fr.same s03
  have h_kept := (kWs : Kd K C _).same (s2.trans s3) h_kept
  have h2 := (kWs : Kd K C _).same s3 h2
  refine s_for (kx := kP kI kI) (S := S) (evi_enum (EvN.ev (evn_call (eva_cons (ev_var rfl h_book (.same s03)) (eva_cons (ev_var rfl h_kept Lf.refl) (eva_cons (ev_var rfl h_absent (.same s03)) eva_nil))) fr3 (by dsimp only; rw [with_len]; exact hws.1)))) fun H4 s4 => ?_
  dsimp only
  rw [tread_eq ok hws]
  have hex : extendedB b ws as = extLoop b (withB ws as) as ((iota b.ds.length).map fun z => (z, cntW (withB ws as) z)) (withB ws as) := by
    unfold extendedB
    rw [tread_eq ok hws]
  refine ⟨fun i σ' H' => ∃ y_work y_times y__ y_found pb f0, σ' = [some w_book, some w_rows, some w_absent, some (.ref p1), some (.ref pb), some (.ref p3), y_work, y_times, y__, y_found] ∧ Same H4 H' ∧ H pb = none ∧ (kWs : Kd K C _).rp S H' (.ref pb) f0 ∧ ExtSt b (withB ws as) as f0 ∧ (∀ z : Int, (i : Int) ≤ z ∧ z < b.ds.length → cntW f0 z = cntW (withB ws as) z) ∧ (∀ x : Int, 0 ≤ x ∧ x < b.ds.length → cntW f0 x ≤ max (at_ b.ds x) (cntW (withB ws as) x)) ∧
      extendedB b ws as = extLoop b (withB ws as) as (((iota b.ds.length).map fun z => (z, cntW (withB ws as) z)).drop i) f0,
    ⟨none, none, none, none, p2, withB ws as, rfl, Same.refl _, s1.free n2, (kWs : Kd K C _).same s4 h2, st0, fun _ _ => rfl, fun x _ => by omega, hex⟩, fun i σ' H' ⟨_, _, _, _, _, _, _, h, _⟩ => Lf.same h, ?_, ?_⟩
  · rintro i x σ' H' v H'' hx ⟨y_work, y_times, y__, y_found, pb, f0, rfl, sI, npb, hb, E0, hc, hle, hres⟩ sX hv
    obtain ⟨z, hz, rfl⟩ := by
      rw [List.getElem?_map] at hx
      exact Option.map_eq_some_iff.mp hx
    obtain ⟨rfl, hin⟩ := iota_at hz
    have hin : i < b.ds.length := by omega
    have hdrop : ((iota b.ds.length).map fun z => (z, cntW (withB ws as) z)).drop i = ((i : Int), cntW (withB ws as) (i : Int)) :: ((iota b.ds.length).map fun z => (z, cntW (withB ws as) z)).drop (i + 1) := by
      have hl : i < ((iota b.ds.length).map fun z => (z, cntW (withB ws as) z)).length := by rw [List.length_map, iota_len]; omega
      rw [List.drop_eq_getElem_cons hl]
      rw [List.getElem?_eq_getElem hl] at hx
      rw [Option.some.inj hx]
    rw [hdrop, extLoop] at hres
    refine gt2 hv fun a1 a2 ha1 ha2 => ?_
    have ha1 : (kI : Kd K C _).rp S H'' a1 (i : Int) := ha1
    have ha2 : (kI : Kd K C _).rp S H'' a2 (cntW (withB ws as) (i : Int)) := ha2
    have s4X := s4.trans (sI.trans sX)
    have hzr : 0 ≤ (i : Int) ∧ (i : Int) < b.ds.length := by omega
    have hd6 := ok.d6 _ (at_mem hzr)
    have hc0 := cntW_le_len (withB ws as) (i : Int)
    have hwl : (withB ws as).length ≤ 6 := by rw [with_len]; have := hws.1; omega
    have hb := (kWs : Kd K C _).same sX hb
    refine s_for (kx := kI) (S := S) (evi_rng (ev_I2 (ev_ixL (ev_var rfl h_demands (.same s4X)) (ev_var rfl ha1 Lf.refl) hzr) (ev_var rfl ha2 Lf.refl)) (by omega) (by omega)) fun H5 s5 => ?_
    generalize hk : (at_ b.ds (i : Int) - cntW (withB ws as) (i : Int)) = k at *
    refine ⟨fun j σ' H' => ∃ y__ y_found pb f1, σ' = [some w_book, some w_rows, some w_absent, some (.ref p1), some (.ref pb), some (.ref p3), some a1, some a2, y__, y_found] ∧ Same H5 H' ∧ H pb = none ∧ (kWs : Kd K C _).rp S H' (.ref pb) f1 ∧ ExtSt b (withB ws as) as f1 ∧ (∀ x : Int, cntW f1 x = cntW f0 x + (if x = (i : Int) then (j : Int) else 0)) ∧ j ≤ k.toNat ∧ extTimes b (withB ws as) as (i : Int) k.toNat f0 = extTimes b (withB ws as) as (i : Int) (k.toNat - j) f1,
      ⟨y__, y_found, pb, f0, rfl, Same.refl _, npb, (kWs : Kd K C _).same s5 hb, E0, fun x => by split <;> omega, Nat.zero_le _, rfl⟩, fun j σ' H' ⟨_, _, _, _, _, h, _⟩ => Lf.same h, ?_, ?_⟩
    · rintro j y σ' H' v' H6 hy ⟨y__, y_found, pb, f1, rfl, sJ, npb, hb, E1, hc1, hj, hres1⟩ sY hv'
      obtain ⟨rfl, hjn⟩ := iota_at hy
      have sAll : Same H3 H6 := s4X.trans (s5.trans (sJ.trans sY))
      have hb := (kWs : Kd K C _).same sY hb
      have fr6 := fr3.same sAll
      have hlt : cntW f1 (i : Int) < at_ b.ds (i : Int) := by
        have h1 := hc1 (i : Int)
        rw [if_pos rfl] at h1
        have := hc (i : Int) (by omega)
        omega
      have hle1 : ∀ x : Int, 0 ≤ x ∧ x < b.ds.length → cntW f1 x ≤ max (at_ b.ds x) (cntW (withB ws as) x) := fun x hx => by
        have h1 := hc1 x
        have h2 := hle x hx
        by_cases e : x = (i : Int)
        · subst e
          omega
        · rw [if_neg e] at h1
          omega
      obtain ⟨⟨ch, hst, hch⟩, E2, hc2⟩ := ext_one ok hws hns E1 hzr hlt hle1
      refine q_set (ev_step (eva_cons (ev_var rfl h_book (.same (s03.trans sAll))) (eva_cons (ev_var rfl h_kept (.same sAll)) (eva_cons (ev_var rfl hb Lf.refl) (eva_cons (ev_var rfl h_absent (.same (s03.trans sAll))) (eva_cons (ev_var rfl ha1 (.same (s5.trans (sJ.trans sY)))) eva_nil))))) fr6 ⟨E1.ok.rowsIn ok, E1.kl, hzr.1, hzr.2⟩) fun w9 H7 s7 h7 => ?_
      rw [hst] at h7
      obtain ⟨t, wc, rfl, hT, hch7⟩ := h7
      have hin7 : ∀ l ∈ ch, 0 ≤ l.1 ∧ l.1 < f1.length := fun l hl => by
        rw [E1.ok.1]
        exact chain_readers hch l hl
      have h60 : ∀ w ∈ f1, w.length ≤ 60 := fun w hw => by
        obtain ⟨jj, hjj, ej⟩ := List.mem_iff_getElem.mp hw
        have r := E1.ok.2 (jj : Int) ⟨by omega, by omega⟩
        rw [at_eq (show f1[jj]? = some w by rw [List.getElem?_eq_getElem hjj, ej])] at r
        have m := at_mem (l := b.rs) (i := (jj : Int)) ⟨by omega, by rw [← E1.ok.1]; omega⟩
        have := (ok.ok _ m).2.1
        have := r.2.2
        omega
      refine s_setN (k := (kWs : Kd K C _)) (S := S) (evn_call (a := (f1, ch, ())) (eva_cons (ev_var rfl hb (.same s7)) (eva_cons (ev_tupAt rfl hT hch7) eva_nil)) (fr6.same s7) ⟨hin7, h60⟩) fun p8 H8 n8 s8 h8 => ?_
      refine ⟨_, _, p8, extStep b (withB ws as) as (i : Int) f1, rfl, sJ.trans (sY.trans (s7.trans s8)), (s03.trans (sAll.trans s7)).free n8, ?_, E2, fun x => ?_, by omega, ?_⟩
      · have e : extStep b (withB ws as) as (i : Int) f1 = walkB f1 ch f1 := by
          unfold extStep
          rw [hst]
        rw [e]
        exact h8
      · rw [hc2 x, hc1 x]
        unfold one_
        by_cases e : x = (i : Int)
        · rw [if_pos e, if_pos e, if_pos e]
          omega
        · rw [if_neg e, if_neg e, if_neg e]
          omega
      · rw [hres1]
        have e : k.toNat - j = (k.toNat - (j + 1)) + 1 := by omega
        rw [e, extTimes]
    · rintro σ' H' ⟨y__, y_found, pb, f1, rfl, sJ, npb, hb, E1, hc1, hj, hres1⟩
      rw [iota_len] at hc1 hj hres1
      rw [Nat.sub_self, extTimes] at hres1
      refine ⟨_, _, _, _, pb, f1, rfl, sI.trans (sX.trans (s5.trans sJ)), npb, hb, E1, fun z hz => ?_, fun x hx => ?_, ?_⟩
      · rw [hc1 z, if_neg (by omega)]
        have := hc z (by omega)
        omega
      · have h1 := hc1 x
        have h2 := hle x hx
        by_cases e : x = (i : Int)
        · subst e
          rw [if_pos rfl] at h1
          have := hc (i : Int) (by omega)
          omega
        · rw [if_neg e] at h1
          omega
      · rw [hres]
        dsimp only
        rw [hres1]
  · rintro σ' H' ⟨y_work, y_times, y__, y_found, pb, f0, rfl, sI, npb, hb, E0, hc, hle, hres⟩
    rw [List.drop_length] at hres
    refine ⟨_, rfl, ?_⟩
    refine q pb H' npb (s03.trans (s4.trans sI)) ?_
    rw [hres]
    exact hb
end
end Ew
namespace Ew
open PySem PySem.Spec PyProof.Rows L2
theorem find_at {α : Type} {p : α → Bool} : ∀ {l : List α} {i : Nat} {x : α}, (∀ y ∈ l.take i, p y = false) → l[i]? = some x → p x = true → l.find? p = some x
  | [], _, _, _, h, _ => by simp at h
  | a :: l, 0, x, _, h, hp => by
    cases (show a = x from Option.some.inj h)
    rw [List.find?_cons, hp]
  | a :: l, i + 1, x, hf, h, hp => by
    rw [List.find?_cons, hf a (by simp)]
    exact find_at (fun y hy => hf y (by simp [hy])) h hp
abbrev kExt {K : PySem.W.Frag} {C : Addr} : Kd K C (List (List Int) ⊕ List Int) := kW "yes" "no" kWs (kT kI)
def pExt {K : PySem.W.Frag} {C : Addr} : KPy (kExt (K := K) (C := C)) 4 := pW (pL (pT pI)) (pT pI) (by decide +kernel) (by decide +kernel) (by decide +kernel)
abbrev extKs {K : PySem.W.Frag} {C : Addr} : Ka K C (Bk × List (List Int) × List Int × Unit) := aC kBk (aC kWs (aC (kT kI) aN))
def sp_extension (K : PySem.W.Frag) (C : Addr) : Sp := fun vs H Q _ => ∃ S a, Fr C S H ∧ (extKs (K := K) (C := C)).rps S H vs a ∧ RowsOk a.1 a.2.1 ∧
  ∀ v H', Same H H' → (kExt (K := K) (C := C)).rp S H' v (extB a.1 a.2.1 a.2.2.1) → (∀ f, extB a.1 a.2.1 a.2.2.1 = .inl f → ∃ t p, v = .ref t ∧ H' t = some (.tup [.str "yes", .ref p]) ∧ H p = none ∧ (kWs (K := K) (C := C)).rp S H' (.ref p) f) → Q v H'
def noRowsB (b : Bk) : List (List Int) := b.rs.map fun _ => []
theorem noRows_ok {b : Bk} (ok : DsOk b.ds b.rs) : RowsOk b (noRowsB b) := by
  unfold noRowsB
  refine ⟨by simp, fun i hi => ?_⟩
  rw [List.length_map] at hi
  have e : at_ (b.rs.map fun _ => ([] : List Int)) i = [] := by
    unfold at_
    rw [List.getD_eq_getElem?_getD, List.getElem?_map]
    cases b.rs[i.toNat]? <;> rfl
  rw [e]
  exact ⟨.nil, fun x hx => (nomatch hx), (ok.ok _ (at_mem hi)).1⟩
theorem isrow_no {l : List Int} {r : Int × List Int} {n : Int} (hp : ∀ x ∈ r.2, 0 ≤ x ∧ x < n) (h : (!ascI n (-1) l || decide (r.1 < ((l.length : Nat) : Int))) = true) : false = decide (RowOk r l) := by
  refine (decide_eq_false fun h' => ?_).symm
  rcases Bool.or_eq_true_iff.mp h with h | h
  · have : ascI n (-1) l = true := ascI_iff.mpr ⟨h'.1, fun x hx => by have := hp x (h'.2.1 x hx); omega⟩
    rw [this] at h
    cases h
  · have := of_decide_eq_true h
    have := h'.2.2
    omega
theorem isrow_yes {l : List Int} {r : Int × List Int} {n : Int} (h : (!ascI n (-1) l || decide (r.1 < ((l.length : Nat) : Int))) = false) : (List.map (fun y => decide (y ∈ r.2)) (l.filter fun _ => true)).all id = decide (RowOk r l) := by
  obtain ⟨h1, h2⟩ := Bool.or_eq_false_iff.mp h
  have h1 : ascI n (-1) l = true := by simpa using h1
  have h2 := of_decide_eq_false h2
  rw [List.filter_eq_self.mpr fun _ _ => rfl, Bool.eq_iff_iff, List.all_map, List.all_eq_true]
  simp only [Function.comp, id, decide_eq_true_eq]
  exact ⟨fun h => ⟨(ascI_iff.mp h1).1, h, by omega⟩, fun h => h.2.1⟩
theorem isrows_no {ws : List (List Int)} {rs : List (Int × List Int)} (h : (!true || !decide (((ws.length : Nat) : Int) = ((rs.length : Nat) : Int))) = true) : false = rowsB ws rs := (rows_no h).symm
theorem isrows_yes {ws : List (List Int)} {rs : List (Int × List Int)} (h : (!true || !decide (((ws.length : Nat) : Int) = ((rs.length : Nat) : Int))) = false) : (List.map (fun y => decide (RowOk y.2 y.1)) ((ws.zip rs).filter fun _ => true)).all id = rowsB ws rs := by
  have h : ((ws.length : Nat) : Int) = ((rs.length : Nat) : Int) := by simpa using h
  unfold rowsB
  rw [List.filter_eq_self.mpr fun _ _ => rfl, decide_eq_true (by omega), Bool.true_and, List.all_map]
  rfl
def ctnBad (ws : List (List Int)) (as : List Int) (p : Int × List Int) : Bool := if p.1 ∈ as then decide (0 < p.2.length) else !(at_ ws p.1).all fun z => decide (z ∈ p.2)
def ctnB (ws : List (List Int)) (as : List Int) (vs : List (List Int)) : Bool := (enum vs).all fun p => !ctnBad ws as p
theorem cont_a {ws : List (List Int)} {as : List Int} {p : Int × List Int} (h : decide (p.1 ∈ as) = true) (h2 : decide ((0 : Int) < ((p.2.length : Nat) : Int)) = false) : ctnBad ws as p = false := by
  unfold ctnBad
  rw [if_pos (of_decide_eq_true h)]
  have := of_decide_eq_false h2
  exact decide_eq_false (by omega)
theorem cont_c {ws : List (List Int)} {as : List Int} {p : Int × List Int} (h : decide (p.1 ∈ as) = true) (h2 : decide ((0 : Int) < ((p.2.length : Nat) : Int)) = true) : ctnBad ws as p = true := by
  unfold ctnBad
  rw [if_pos (of_decide_eq_true h)]
  have := of_decide_eq_true h2
  exact decide_eq_true (by omega)
theorem cont_e {l : List Int} {p : Int × List Int} : (List.map (fun y => decide (y ∈ p.2)) (l.filter fun _ => true)).all id = l.all fun z => decide (z ∈ p.2) := by
  rw [List.filter_eq_self.mpr fun _ _ => rfl, List.all_map]
  rfl
theorem cont_b {ws : List (List Int)} {as : List Int} {p : Int × List Int} (h : decide (p.1 ∈ as) = false) (h2 : (!(List.map (fun y => decide (y ∈ p.2)) ((at_ ws p.1).filter fun _ => true)).all id) = false) : ctnBad ws as p = false := by
  unfold ctnBad
  rw [if_neg (of_decide_eq_false h), ← cont_e]
  exact h2
theorem cont_d {ws : List (List Int)} {as : List Int} {p : Int × List Int} (h : decide (p.1 ∈ as) = false) (h2 : (!(List.map (fun y => decide (y ∈ p.2)) ((at_ ws p.1).filter fun _ => true)).all id) = true) : ctnBad ws as p = true := by
  unfold ctnBad
  rw [if_neg (of_decide_eq_false h), ← cont_e]
  exact h2
theorem cont_no {ws : List (List Int)} {as : List Int} {vs : List (List Int)} {i : Nat} {x : Int × List Int} (hx : (enum vs)[i]? = some x) (h : ctnBad ws as x = true) : false = ctnB ws as vs := by
  unfold ctnB
  rw [eq_comm, Bool.eq_false_iff]
  intro h'
  have := List.all_eq_true.mp h' x (List.mem_of_getElem? hx)
  rw [h] at this
  cases this
theorem cont_yes {ws : List (List Int)} {as : List Int} {vs : List (List Int)} (h : ∀ x ∈ enum vs, ctnBad ws as x = false) : true = ctnB ws as vs := by
  unfold ctnB
  rw [eq_comm, List.all_eq_true]
  intro x hx
  rw [h x hx]
  rfl
def mxL (l m : List Int) : List Int := (l.zip m).map fun p => if p.2 > p.1 then p.2 else p.1
def extendsB (b : Bk) (ws : List (List Int)) (as : List Int) (vs : List (List Int)) : Bool := rowsB vs b.rs && (ctnB ws as vs && decide (treadB b vs as = mxL b.ds (treadB b ws as)))
theorem rows_lenB {vs : List (List Int)} {rs : List (Int × List Int)} (h : (!rowsB vs rs) = false) : vs.length = rs.length := by
  have h : rowsB vs rs = true := by simpa using h
  unfold rowsB at h
  exact of_decide_eq_true (Bool.and_eq_true_iff.mp h).1
theorem ext_lenB {c : Bool} {vs : List (List Int)} {rs : List (Int × List Int)} (h : (!rowsB vs rs || c) = false) : vs.length = rs.length := rows_lenB (Bool.or_eq_false_iff.mp h).1
theorem extends_no {b : Bk} {ws vs : List (List Int)} {as : List Int} (h : (!rowsB vs b.rs || !ctnB ws as vs) = true) : false = extendsB b ws as vs := by
  unfold extendsB
  cases h1 : rowsB vs b.rs with
  | false => rfl
  | true =>
    rw [h1] at h
    cases h2 : ctnB ws as vs with
    | false => rfl
    | true => rw [h2] at h; cases h
theorem extends_yes {b : Bk} {ws vs : List (List Int)} {as : List Int} (h : (!rowsB vs b.rs || !ctnB ws as vs) = false) : decide (treadB b vs as = List.map (fun y : Int × Int => if y.2 > y.1 then y.2 else y.1) ((b.ds.zip (treadB b ws as)).filter fun _ => true)) = extendsB b ws as vs := by
  obtain ⟨h1, h2⟩ := Bool.or_eq_false_iff.mp h
  unfold extendsB mxL
  rw [show rowsB vs b.rs = true by simpa using h1, show ctnB ws as vs = true by simpa using h2, List.filter_eq_self.mpr fun _ _ => rfl]
  rfl
section
variable {P : Program} {w : World} {K : PySem.W.Frag} {mg : Str → Option Value} {base : Heap} {C : Addr}
abbrev sExtension : Stmt := (top 31)
theorem scExtension : FnScope ["book", "rows", "absent", "works"] ["book", "rows", "absent"] (defScope sExtension) := ⟨rfl, rfl, rfl, by decide +kernel, rfl, by decide +kernel, by decide +kernel⟩
theorem c_extension (D : DefAt K mg "extension" sExtension ["book", "rows", "absent"]) (B : Bi mg) (T : BkC P w K mg base C) (c_sets_of_works : C8.Cal P w K mg base 1 "sets_of_works" (sp_sets_of_works K C) []) (c_is_short : C8.Cal P w K mg base 3 "is_short" (sp_is_short K C) []) (c_extended : C8.Cal P w K mg base 5 "extended" (sp_extended K C) []) : C8.Cal P w K mg base 6 "extension" (sp_extension K C) [] := by
  refine cal_of D scExtension (fun vs H Q E h => ?_) fun f cdv A outer s H vs Q E hr h => ?_
  · obtain ⟨S, a, _, h, _⟩ := h
    rw [Ka.len _ h]
    rfl
  obtain ⟨S, ⟨b, ws, as, _⟩, fr, h, hws, q⟩ := h
  obtain ⟨w_book, _, rfl, h_book, w_rows, _, rfl, h_rows, w_absent, _, rfl, h_absent, e⟩ := h
  cases (show _ = [] from e)
  have hws : RowsOk b ws := hws
  have h_book : (kBk : Kd K C _).rp S H w_book b := h_book
  have h_rows : (kWs : Kd K C _).rp S H w_rows ws := h_rows
  have h_absent : (kT kI : Kd K C _).rp S H w_absent as := h_absent
  have ok := kBk.ok h_book
  have n6 := ok.n6
  have q : ∀ v H', Same H H' → (kExt (K := K) (C := C)).rp S H' v (extB b ws as) → (∀ f, extB b ws as = .inl f → ∃ t p, v = .ref t ∧ H' t = some (.tup [.str "yes", .ref p]) ∧ H p = none ∧ (kWs (K := K) (C := C)).rp S H' (.ref p) f) → Q v H' := q
  refine ⟨_, (pss_cons (ps_for PassesOwn.never rfl (pi_list (C8.pe_c c_sets_of_works hr (by decide) (by rfl) (pa_cons (pe_callB (call_lenBk T hr (by decide)) (by rfl) B.len PySem.boot_len (pa_cons (pv 0) pa_nil)) pa_nil))) (pg_name (i := 3) scExtension.nd rfl (.inl rfl)) (pss_one (ps_if (pt_val (C8.pe_c c_is_short hr (by decide) (by rfl) (pa_cons (pv 0) (pa_cons (pv 1) (pa_cons (pv 2) (pa_cons (pv 3) pa_nil)))))) (pss_one (ps_ret (pe_tup (pa_cons pe_str (pa_cons (pv 3) pa_nil))))) pss_nil)))
 (pss_one (ps_ret (pe_tup (pa_cons pe_str (pa_cons (C8.pe_c c_extended hr (by decide) (by rfl) (pa_cons (pv 0) (pa_cons (pv 1) (pa_cons (pv 2) pa_nil)))) pa_nil)))))), ?_⟩
  try dsimp only [cxOf, Cx.nox, Cx.wish]
  refine s_for (kx := kT kI) (S := S) (evi_list (EvN.ev (evn_call (eva_cons (ev_lenBk (ev_var rfl h_book Lf.refl)) eva_nil) fr (by dsimp only; omega)))) fun H2 s2 => ⟨fun i σ' H' => ∃ y_works, σ' = [some w_book, some w_rows, some w_absent, y_works] ∧ Same H2 H' ∧ ∀ l ∈ (allSets b.ds.length).take i, shortB b ws as l = false, ⟨none, rfl, Same.refl _, fun x hx => by simp at hx⟩, fun i σ' H' ⟨_, _, h, _⟩ => Lf.same h, ?_, ?_⟩
  · rintro i l σ' H' v H'' hx ⟨y_works, rfl, sI, hI⟩ sX hv
    have s0 := s2.trans (sI.trans sX)
    have hx : (allSets b.ds.length)[i]? = some l := hx
    refine s_if (evt_b (ev_call (eva_cons (ev_var rfl h_book (.same s0)) (eva_cons (ev_var rfl h_rows (.same s0)) (eva_cons (ev_var rfl h_absent (.same s0)) (eva_cons (ev_var rfl hv Lf.refl) eva_nil)))) (fr.same s0) ⟨hws.1, (allSets_mem.mp (List.mem_of_getElem? hx)).2.2⟩)) (fun H3 hb s3 => ?_) fun H3 hb s3 => ?_
    · have hb : shortB b ws as l = true := hb
      have e : extB b ws as = .inr l := by
        unfold extB
        rw [find_at hI hx hb]
      refine s_ret (k := kExt) (S := S) (ev_tWr (ev_var rfl hv (.same s3))) fun v H4 s4 r4 => q v H4 (s0.trans (s3.trans s4)) ?_ ?_
      · rw [e]
        exact r4
      · rw [e]
        rintro f ⟨⟩
    · exact ⟨_, rfl, sI.trans (sX.trans s3), allT hI hx hb⟩
  · rintro σ' H' ⟨y_works, rfl, sI, hI⟩
    have hns : ∀ l ∈ allSets b.ds.length, shortB b ws as l = false := fun l hl => hI l (by have e : List.take (allSets b.ds.length).length (allSets b.ds.length) = allSets b.ds.length := List.take_of_length_le (Nat.le_refl _); show l ∈ List.take (allSets b.ds.length).length (allSets b.ds.length); rw [e]; exact hl)
    have s0 := s2.trans sI
    have e : extB b ws as = .inl (extendedB b ws as) := by
      unfold extB
      rw [List.find?_eq_none.mpr fun l hl => by rw [hns l hl]; exact Bool.false_ne_true]
    refine EvN.use (k := (kWs : Kd K C _)) (S := S) (evn_call (eva_cons (ev_var rfl h_book (.same s0)) (eva_cons (ev_var rfl h_rows (.same s0)) (eva_cons (ev_var rfl h_absent (.same s0)) eva_nil))) (fr.same s0) ⟨hws, hns⟩) fun p H4 np s4 h4 => ⟨szL (by simp), fun t nt => ?_⟩
    have h5 := (kWs : Kd K C _).same (sameU (o := .tup [.str "yes", .ref p]) nt) h4
    refine q _ _ (s0.trans (s4.trans (sameU nt))) ?_ ?_
    · rw [e]
      exact ⟨t, _, rfl, .inl (.inl upd_same), h5⟩
    · rw [e]
      rintro f ⟨⟩
      exact ⟨t, p, rfl, upd_same, s0.free np, h5⟩

abbrev sNobody : Stmt := (top 37)
def sp_nobody_reads (K : PySem.W.Frag) (C : Addr) : Sp := spN (K := K) (C := C) (aC kBk aN) (kL (kT kI)) (fun (b , _) => True) fun (b, _) => noRowsB b
theorem scNobody : FnScope ["book", "_"] ["book"] (defScope sNobody) := ⟨rfl, rfl, rfl, by decide +kernel, rfl, by decide +kernel, by decide +kernel⟩
theorem c_nobody_reads (D : DefAt K mg "nobody_reads" sNobody ["book"]) (B : Bi mg) (T : BkC P w K mg base C)   : C8.Cal P w K mg base 2 "nobody_reads" (sp_nobody_reads K C) [] := by
  refine calN D scNobody rfl fun f cdv A outer s H vs Q E S a hr fr ha hp q => ?_
  obtain ⟨b, _⟩ := a
  obtain ⟨w_book, _, rfl, h_book, e⟩ := ha
  cases (show _ = [] from e)
  have h_book : (kBk : Kd K C _).rp S H w_book b := h_book
  have ok_book := kBk.ok h_book
  have r6_book := ok_book.r6
  have n6_book := ok_book.n6
  have n1_book := ok_book.n1
  have q : ∀ p H', H p = none → Same H H' → ((kL (kT kI)) : Kd K C _).rp S H' (.ref p) (noRowsB b) → Q (.ref p) H' := q

  refine ⟨_, (pss_one (ps_ret (pe_lc (own := [("_", 1)]) (g := (gName 1)) (tt := tYes) (te := (tTup tNil)) rfl scNobody.nd (pi_list (C8.pe_mt0 T.rd hr (by decide) (pv 0))) (blkOk_by (own := [("_", 1)]) (N := ["book", "_"]) (sc := defScope sNobody) (by decide +kernel)) (fun _ _ _ _ _ => (pg_name (i := 1) scNobody.nd rfl (.inl rfl))) (fun _ _ _ _ _ => pts_nil) (fun _ _ _ _ _ => (pe_tup pa_nil))))), ?_⟩
  try dsimp only [cxOf, Cx.nox, Cx.wish]
  exact s_retN (EvN.to (evn_lc fr (evi_list (EvN.ev (evn_rd (ev_var rfl h_book Lf.refl) fr))) (by first | omega | (dsimp only; omega)) (fun y1 hy1 D1 v1 H1 l1 f1 hv1 => lcb_name rfl evt_yes (fun ht1 => (ev_t0 (k := (kI : Kd K C _)))))) (by unfold noRowsB; rw [List.filter_eq_self.mpr (fun _ _ => rfl)])) fun p H' n s' r => q p H' n s' r

abbrev sGoodRows : Stmt := (top 38)
def sp_good_rows (K : PySem.W.Frag) (C : Addr) : Sp := fun vs H Q _ => ∃ S a, Fr C S H ∧ (aC kBk (aC (kT kI) aN) : Ka K C (Bk × List Int × Unit)).rps S H vs a ∧
  ∀ v H', Same H H' → (kExt (K := K) (C := C)).rp S H' v (extB a.1 (noRowsB a.1) a.2.1) → (∀ f, extB a.1 (noRowsB a.1) a.2.1 = .inl f → ∃ t p, v = .ref t ∧ H' t = some (.tup [.str "yes", .ref p]) ∧ H p = none ∧ (kWs (K := K) (C := C)).rp S H' (.ref p) f) → Q v H'
theorem scGoodRows : FnScope ["book", "absent"] ["book", "absent"] (defScope sGoodRows) := ⟨rfl, rfl, rfl, by decide +kernel, rfl, by decide +kernel, by decide +kernel⟩
theorem c_good_rows (D : DefAt K mg "good_rows" sGoodRows ["book", "absent"]) (c_extension : C8.Cal P w K mg base 6 "extension" (sp_extension K C) []) (c_nobody_reads : C8.Cal P w K mg base 2 "nobody_reads" (sp_nobody_reads K C) []) : C8.Cal P w K mg base 7 "good_rows" (sp_good_rows K C) [] := by
  refine cal_of D scGoodRows (fun vs H Q E h => ?_) fun f cdv A outer s H vs Q E hr h => ?_
  · obtain ⟨S, a, _, h, _⟩ := h
    rw [Ka.len _ h]
    rfl
  obtain ⟨S, ⟨b, as, _⟩, fr, h, q⟩ := h
  obtain ⟨w_book, _, rfl, h_book, w_absent, _, rfl, h_absent, e⟩ := h
  cases (show _ = [] from e)
  have h_book : (kBk : Kd K C _).rp S H w_book b := h_book
  have h_absent : (kT kI : Kd K C _).rp S H w_absent as := h_absent
  refine ⟨_, (pss_one (ps_ret (C8.pe_c c_extension hr (by decide) (by rfl) (pa_cons (pv 0) (pa_cons (C8.pe_c c_nobody_reads hr (by decide) (by rfl) (pa_cons (pv 0) pa_nil)) (pa_cons (pv 1) pa_nil)))))), ?_⟩
  try dsimp only [cxOf, Cx.nox, Cx.wish]
  refine EvA.use (S := S) (eva_cons (ev_var rfl h_book Lf.refl) (eva_cons (EvN.ev (evn_call (eva_cons (ev_var rfl h_book Lf.refl) eva_nil) fr trivial)) (eva_cons (ev_var rfl h_absent Lf.refl) eva_nil))) fun vs H2 s2 rv => ?_
  show sp_extension K C (vs ++ []) H2 _ _
  rw [List.append_nil]
  refine ⟨S, _, fr.same s2, rv, noRows_ok (kBk.ok h_book), fun v H3 s3 r hc => q v H3 (s2.trans s3) r fun f e => ?_⟩
  obtain ⟨t, p, h1, h2, h3, h4⟩ := hc f e
  exact ⟨t, p, h1, h2, s2.free h3, h4⟩
end
section
variable {K : PySem.W.Frag} {C : Addr} {S : List Addr} {H : Hp} {σ : L2.St} {t : TA} {b : Bk} {ws : List (List Int)} {as : List Int}
theorem r_ext {Q : VK} (ha : EvA (extKs (K := K) (C := C)) S H t σ (b, ws, as, ())) (fr : Fr C S H) (hp : RowsOk b ws)
    (q : ∀ v H2, Same H H2 → (kExt (K := K) (C := C)).rp S H2 v (extB b ws as) → (∀ f, extB b ws as = .inl f → ∃ t p, v = .ref t ∧ H2 t = some (.tup [.str "yes", .ref p]) ∧ H p = none ∧ (kWs (K := K) (C := C)).rp S H2 (.ref p) f) → Q v H2) :
    tCall (sp_extension K C) [] C8.E0 t σ H Q := ha.use fun vs H2 s2 rv => by
  show sp_extension K C (vs ++ []) H2 _ _
  rw [List.append_nil]
  exact ⟨S, _, fr.same s2, rv, hp, fun v H3 s3 r hc => q v H3 (s2.trans s3) r fun f e => let ⟨t, p, h1, h2, h3, h4⟩ := hc f e; ⟨t, p, h1, h2, s2.free h3, h4⟩⟩
theorem ev_ext (ha : EvA (extKs (K := K) (C := C)) S H t σ (b, ws, as, ())) (fr : Fr C S H) (hp : RowsOk b ws) : Ev (kExt (K := K) (C := C)) S H (tCall (sp_extension K C) [] C8.E0 t) σ (extB b ws as) := fun H1 s Q q => ha H1 s _ fun vs H2 s2 rv => by
  show sp_extension K C (vs ++ []) H2 _ _
  rw [List.append_nil]
  exact ⟨S, _, fr.same (s.trans s2), rv, hp, fun v H3 s3 r _ => q v H3 (s2.trans s3) r⟩
end
section
variable {K : PySem.W.Frag} {C : Addr} {S : List Addr} {H : Hp} {σ : L2.St} {t : TA} {b : Bk} {ws : List (List Int)} {as : List Int}
theorem r_good {Q : VK} (ha : EvA (aC kBk (aC (kT kI) aN) : Ka K C (Bk × List Int × Unit)) S H t σ (b, as, ())) (fr : Fr C S H)
    (q : ∀ v H2, Same H H2 → (kExt (K := K) (C := C)).rp S H2 v (extB b (noRowsB b) as) → (∀ f, extB b (noRowsB b) as = .inl f → ∃ t p, v = .ref t ∧ H2 t = some (.tup [.str "yes", .ref p]) ∧ H p = none ∧ (kWs (K := K) (C := C)).rp S H2 (.ref p) f) → Q v H2) :
    tCall (sp_good_rows K C) [] C8.E0 t σ H Q := ha.use fun vs H2 s2 rv => by
  show sp_good_rows K C (vs ++ []) H2 _ _
  rw [List.append_nil]
  exact ⟨S, _, fr.same s2, rv, fun v H3 s3 r hc => q v H3 (s2.trans s3) r fun f e => let ⟨t, p, h1, h2, h3, h4⟩ := hc f e; ⟨t, p, h1, h2, s2.free h3, h4⟩⟩
theorem ev_good (ha : EvA (aC kBk (aC (kT kI) aN) : Ka K C (Bk × List Int × Unit)) S H t σ (b, as, ())) (fr : Fr C S H) : Ev (kExt (K := K) (C := C)) S H (tCall (sp_good_rows K C) [] C8.E0 t) σ (extB b (noRowsB b) as) := fun H1 s Q q => ha H1 s _ fun vs H2 s2 rv => by
  show sp_good_rows K C (vs ++ []) H2 _ _
  rw [List.append_nil]
  exact ⟨S, _, fr.same (s.trans s2), rv, fun v H3 s3 r _ => q v H3 (s2.trans s3) r⟩
end
end Ew
namespace Ew
open PySem PySem.Spec PyProof.Rows L2
/-! ### min(tuples, key=len, default=None) -/
section
variable {prog : Program} {w : World} {A : Around} {E : Value → Shared → Prop} {s : Shared}
theorem min_len_raw {l : Addr} {its : Array Value} {ln : Nat → Nat} {Q : Value → Shared → Prop} (hh : A.handled = none) (hl : s.heap.IsList l its)
    (ht : ∀ (i : Nat) v, its[i]? = some v → ∃ t ys, v = Value.ref t ∧ IsTup s.heap t ys ∧ ys.size = ln i ∧ (ys.size : Int) < 2 ^ 63)
    (h0 : its.size = 0 → ∀ h' tk, (∀ b o, s.heap.get? b = some o → h'.get? b = some o) → Q .none { s with heap := h', toks := tk })
    (h1 : ∀ (i : Nat) v, its[i]? = some v → (∀ j, j < its.size → ln i ≤ ln j) → ∀ h' tk, (∀ b o, s.heap.get? b = some o → h'.get? b = some o) → Q v { s with heap := h', toks := tk }) :
    wpAny (model prog w) A (call (.builtin "min") [.ref l] [(Str.ofString "key", .builtin "len"), (Str.ofString "default", .none)]) Q E s := by
  refine call_min_walkKBD (iter_anyList hl fun s₂ e st hfp hlI => ?_)
  subst e
  have W := (Walks.list (prog := prog) (w := w) (A := A.in1) hh s.heap.objs.size l hlI its).toS
  have back : ∀ s' : Shared, (s'.gens = s.gens ∧ s'.drawn = s.drawn ∧ s'.os = s.os ∧ ∀ b o, s.heap.get? b = some o → s'.heap.get? b = some o) → s' = { s with heap := s'.heap, toks := s'.toks } := fun s' ⟨a, b, c, _⟩ => by
    cases s'
    cases s
    simp only at a b c
    subst a b c
    rfl
  refine ⟨_, _, _, _, _, _, _, fun s' => s'.gens = s.gens ∧ s'.drawn = s.drawn ∧ s'.os = s.os ∧ (∀ b o, s.heap.get? b = some o → s'.heap.get? b = some o), fun i k _ => ∃ t, k = Value.int (ln i : Nat) t, fun i j => decide ((ln i : Int) < (ln j : Int)), rfl, W, st, hfp, ?_, ⟨rfl, rfl, rfl, fun b o e => Heap.get?_push_of_some _ e⟩, ?_, ?_⟩
  · constructor
    · rintro s1 s2 ⟨a, b, c, d⟩ m
      refine ⟨(show s2.gens = s1.gens from m.gens).trans a, m.drawn.trans b, m.os.trans c, fun x o e => m.heap x o (fun hm => ?_) (d x o e)⟩
      have lt := Heap.lt_size e
      rcases List.mem_cons.mp hm with rfl | hm
      · have lt' : (s.heap.push { cls := .type "list_iterator", data := .fields #[.ref l, .int 0 0] }).objs.size < s.heap.objs.size := lt
        rw [Heap.size_push] at lt'
        omega
      · rw [List.mem_singleton.mp hm] at lt
        exact Nat.lt_irrefl _ lt
    · intro i k s1 s2 h _
      exact h
    · intro i v s1 o Q E hi hP hJ hSt hS hq
      obtain ⟨t, ys, rfl, hT, hn, hf⟩ := ht i v hP
      refine len_tuple (hT.keeps hJ.2.2.2) hf ?_
      exact hq _ _ ⟨hJ.1, hJ.2.1, hJ.2.2.1, hJ.2.2.2⟩ hSt hS ⟨_, by rw [hn]⟩ fun _ _ h => h
    · rintro i j ki kj s1 Q E _ ⟨t, rfl⟩ ⟨u, rfl⟩ hq
      exact richCompare_gives (op := .Lt) (typeIs_int s1 _ t) (typeIs_int s1 _ u) F.slot_int_lt F.entry_int_lt (F.args_int_lt_2 _ _) (gives_int_lt _ _ t u) (fun x => nomatch x) hq
  · intro hn s' hJ
    rw [back s' hJ]
    exact h0 hn _ _ hJ.2.2.2
  · intro hn v s' hP hJ
    rw [back s' hJ]
    obtain ⟨b1, b2⟩ := argBest_lt (fun i => (ln i : Int)) (its.size - 1)
    exact h1 _ v hP (fun j hj => by have := b2 j (by omega); omega) _ _ hJ.2.2.2
end
def rMinLen (K : PySem.W.Frag) : V → Hp → VK → Prop := fun x H Q => ∃ (a : Addr) (ys : List V) (ln : Nat → Nat), x = .ref a ∧ SqL K H a ys ∧ (∀ i y, ys[i]? = some y → ∃ t xs, y = .ref t ∧ SqT K H t xs ∧ xs.length = ln i) ∧ (ys = [] → Q .non H) ∧ ∀ i y, ys[i]? = some y → (∀ j, j < ys.length → ln i ≤ ln j) → Q y H
def tMinLen (K : PySem.W.Frag) (te : TE) : TE := fun σ H Q => tCons te tNil σ H fun vs H1 => ∃ x, vs = [x] ∧ rMinLen K x H1 Q
section
variable {X : Cx}
theorem cr_minLen (hc : X.calm = true) {pins : List (Addr × Obj)} {s : Shared} {σ : L2.St} {H : Hp} {x : V} {u : Value} {Q : VK} (I : Inv X pins σ H s) (r : RelV x u) (h : rMinLen X.K x H Q) :
    wpAny (model X.prog X.w) X.A (call (.builtin "min") [u] [(Str.ofString "key", .builtin "len"), (Str.ofString "default", .none)]) (EP X pins σ Q) X.xe s := by
  obtain ⟨a, ys, ln, rfl, hq, ht, q0, q1⟩ := h
  cases r
  obtain ⟨its, rv, pl, hz⟩ := I.list hq
  have hlen := rv.length
  refine min_len_raw (ln := ln) (I.ok.hd hc) pl.isList (fun i v hv => ?_) (fun h0 h' tk hk => ⟨.non, H, I.kept hk, rfl, q0 ?_⟩) (fun i v hv hm h' tk hk => ?_)
  · have hv : its[i]? = some v := by simpa using hv
    have hlt := (List.getElem?_eq_some_iff.mp hv).1
    obtain ⟨y, hy⟩ : ∃ y, ys[i]? = some y := ⟨ys[i]'(by omega), by simp⟩
    obtain ⟨u', hu, ry⟩ := rv.get hy
    rw [hv] at hu
    cases hu
    obtain ⟨t, xs, rfl, hT, hn⟩ := ht i y hy
    obtain ⟨its2, r2, p2, z2⟩ := I.tuple hT
    have l2 := r2.length
    have hb := line63
    refine ⟨t, its2.toArray, ry, p2, by rw [List.size_toArray]; omega, by rw [List.size_toArray]; omega⟩
  · have : ys.length = 0 := by rw [List.size_toArray] at h0; omega
    exact List.eq_nil_of_length_eq_zero this
  · have hv : its[i]? = some v := by simpa using hv
    have hlt := (List.getElem?_eq_some_iff.mp hv).1
    obtain ⟨y, hy⟩ : ∃ y, ys[i]? = some y := ⟨ys[i]'(by omega), by simp⟩
    obtain ⟨u', hu, ry⟩ := rv.get hy
    rw [hv] at hu
    cases hu
    exact ⟨y, H, I.kept hk, ry, q1 i y hy fun j hj => hm j (by rw [List.size_toArray]; omega)⟩
theorem pe_minLen {e e2 : Expr} {te : TE} {p p2 pos kp kp2 : Pos} (hc : X.calm = true) (he : PE X e te) (hg : Gl X "min") (hm : X.mg "min" = none) (hgl : Gl X "len") (hml : X.mg "len" = none) (h2 : PE X e2 (tC .non)) (hs1 : starEach [e] X.env = (false, eval e X.env) :: starEach [] X.env := by rfl)
    (hs : backTo pos (starEach [e] X.env) = (false, eval e X.env) :: backTo pos (starEach [] X.env) := by rfl) (hpl : (backTo pos (starEach [e] X.env)).any (·.1) = false := by rfl)
    (hall : (backToKw pos (keywordEach [⟨some (Str.ofString "key"), .Name (Str.ofString "len") p2, kp⟩, ⟨some (Str.ofString "default"), e2, kp2⟩] X.env)).all (·.1.isSome) = true := by rfl) (hnone : (backToKw pos (keywordEach [⟨some (Str.ofString "key"), .Name (Str.ofString "len") p2, kp⟩, ⟨some (Str.ofString "default"), e2, kp2⟩] X.env)).any (·.1.isNone) = false := by rfl) (hks : (backToKw pos (keywordEach [⟨some (Str.ofString "key"), .Name (Str.ofString "len") p2, kp⟩, ⟨some (Str.ofString "default"), e2, kp2⟩] X.env)).filterMap (·.1) = [Str.ofString "key", Str.ofString "default"] := by rfl) :
    PE X (.Call (.Name (Str.ofString "min") p) [e] [⟨some (Str.ofString "key"), .Name (Str.ofString "len") p2, kp⟩, ⟨some (Str.ofString "default"), e2, kp2⟩] pos) (tMinLen X.K te) := by
  refine ⟨fun pins s σ H Q I h => ?_⟩
  have hk : PK X [⟨some (Str.ofString "default"), e2, kp2⟩] (tCons (tC .non) tNil) := pk_cons h2 pk_nil
  refine wpAny_Call_Name_kw (ld_blt I hg hm (by decide +kernel : bootBuiltins (Str.ofString "min") = some (.builtin "min")) ?_ (by decide) (by decide))
  refine PyProof.Rows.callWith_kw (thn ((pa_cons he pa_nil hs1 : PA X [e] (tCons te tNil)).run pos pins s σ H _ I h) fun us s1 ⟨vs, H1, I1, r1, q1⟩ => ?_) hs hpl hall hnone
  obtain ⟨x, rfl, q1⟩ := q1
  obtain ⟨u, rfl, rx⟩ := vals1 r1
  show wpAny _ _ (evalAll ((do let v ← eval (.Name (Str.ofString "len") p2) X.env; standAt pos; pure v) :: (backToKw pos (keywordEach [⟨some (Str.ofString "default"), e2, kp2⟩] X.env)).map (·.2))) _ _ s1
  refine wpAny_evalAll_cons (wpAny_bind (ld_blt I1 hgl hml (by decide +kernel : bootBuiltins (Str.ofString "len") = some (.builtin "len")) (wpAny_bind (wpAny_standAt (wpAny_pure ?_))) (by decide) (by decide)))
  refine thn (hk.run pos pins s1 σ H1 (fun xs H2 => xs = [.non] ∧ rMinLen X.K x H2 Q) I1 ⟨rfl, q1⟩) fun us s2 ⟨xs, H2, I2, r2, q2⟩ => ?_
  obtain ⟨rfl, q2⟩ := q2
  obtain ⟨u2, rfl, e2'⟩ := vals1 r2
  obtain rfl : u2 = Value.none := e2'
  rw [hks]
  exact cr_minLen hc I2 rx q2
end
end Ew
namespace Ew
open PySem PySem.Spec PyProof.Rows L2
/-! ### max(tuples, key=lambda told: told[0]) -/
section
variable {prog : Program} {w : World} {A : Around} {E : Value → Shared → Prop} {s : Shared}
/-- the one name of the lambda -/
def oneScope (a : Str) : Scope := { kind := .function, names := [(a, NameKind.local)], isGenerator := false, isCoroutine := false, more := [] }
theorem lam_turn {f c' t : Addr} {a q : Str} {params : Arguments} {cl : List (Str × Addr)} {pm ctv x : Value} {p1 p2 p3 : Pos} {j : Nat} {items : Array Value} {Q : Value → Shared → Prop} (hroom : A.depth < recursionLimit)
    (ho : s.heap.get? f = some (PySem.W.kla_obj "<lambda>" q params (.Subscript (.Name a p1) (.Constant (.int 0) j p2) p3) (oneScope a) cl pm c' ctv))
    (hcode : s.heap.CodeRec (.ref c') q) (hbind : bindArgs (PySem.W.kla_fn "<lambda>" q params (.Subscript (.Name a p1) (.Constant (.int 0) j p2) p3) (oneScope a) cl pm (.ref c') ctv) ⟨[.ref t], []⟩ = pure [(a, .ref t)])
    (hlim : s.heap.NoLimit) (hT : IsTup s.heap t items) (h0 : items[0]? = some x) (hdb : (a == ("__debug__" : Str)) = false)
    (h : ∀ h' tk, s.toks ≤ tk → (∀ b o, s.heap.get? b = some o → h'.get? b = some o) → Q x { s with heap := h', toks := tk }) :
    wpAny (model prog w) A (call (.ref f) [.ref t]) Q E s := by
  refine wpAny_call ?_
  refine PySem.W.kla_callFunE hroom ho rfl rfl rfl rfl hcode ?_
  rw [hbind]
  have hb : ∀ y ∈ [(a, Value.ref t)], (oneScope a).names.lookup y.1 = some NameKind.local := fun y hy => by
    rw [List.mem_singleton.mp hy]
    show (List.lookup a [(a, NameKind.local)]) = _
    simp [List.lookup]
  refine wpAny_pure (wpAny_newFunctionEnv (fun y hy z => by
    rw [List.mem_singleton.mp hy] at z
    cases z) hb (fun h₁ hns hsb => ⟨hlim.fresh _ hsb, ?_⟩) rfl)
  have kp : ∀ b o, s.heap.get? b = some o → h₁.get? b = some o := fun b o e => hsb.extBut b o (Nat.ne_of_lt (Heap.lt_size e)) (Heap.get?_push_of_some _ e)
  have lt : 0 < items.size := by
    rcases Nat.eq_zero_or_pos items.size with z | z
    · rw [Array.getElem?_eq_none (by omega)] at h0
      cases h0
    · exact z
  refine PySem.W.kla_codeExpr ?_
  refine Subscript_Constant (wpAny_Name (wpAny_loadName_local rfl (hb _ (List.mem_singleton.mpr rfl)) hns (v := .ref t) (by simp [List.lookup]) ?_) hdb)
  refine wpAny_Constant_int ?_
  refine ⟨_, _, slot_tuple_getitem.lookup, (hT.keeps kp).typeIs, ?_⟩
  refine getItem_tuple (hT.keeps kp) (by decide) (by decide) ?_ h0 ?_
  · unfold seqIndex?
    simp [lt]
  · exact h _ _ (Nat.le_trans (Nat.le_add_right _ _) (Nat.le_add_right _ _)) kp
theorem max_key_raw {l f : Addr} {its : Array Value} {num : Nat → Int} {Q : Value → Shared → Prop} (hh : A.handled = none) (hl : s.heap.IsList l its) (hpos : 0 < its.size)
    (ht : ∀ (i : Nat) v, its[i]? = some v → ∀ (s' : Shared), (∀ b o, s.heap.get? b = some o → s'.heap.get? b = some o) → ∀ (Q : Value → Shared → Prop) (E : Value → Shared → Prop),
      (∀ u h' tk, s'.toks ≤ tk → (∀ b o, s'.heap.get? b = some o → h'.get? b = some o) → Q (.int (num i) u) { s' with heap := h', toks := tk }) → wpAny (model prog w) A.in1 (call (.ref f) [v]) Q E s')
    (h1 : ∀ (i : Nat) v, its[i]? = some v → (∀ j, j < its.size → num j ≤ num i) → ∀ h' tk, (∀ b o, s.heap.get? b = some o → h'.get? b = some o) → Q v { s with heap := h', toks := tk }) :
    wpAny (model prog w) A (call (.builtin "max") [.ref l] [(Str.ofString "key", .ref f)]) Q E s := by
  refine call_max_walkK (iter_anyList hl fun s₂ e st hfp hlI => ?_)
  subst e
  have W := (Walks.list (prog := prog) (w := w) (A := A.in1) hh s.heap.objs.size l hlI its).toS
  have back : ∀ s' : Shared, (s'.gens = s.gens ∧ s'.drawn = s.drawn ∧ s'.os = s.os ∧ ∀ b o, s.heap.get? b = some o → s'.heap.get? b = some o) → s' = { s with heap := s'.heap, toks := s'.toks } := fun s' ⟨a, b, c, _⟩ => by
    cases s'
    cases s
    simp only at a b c
    subst a b c
    rfl
  refine ⟨_, _, _, _, _, _, _, fun s' => s'.gens = s.gens ∧ s'.drawn = s.drawn ∧ s'.os = s.os ∧ (∀ b o, s.heap.get? b = some o → s'.heap.get? b = some o), fun i k _ => ∃ t, k = Value.int (num i) t, fun i j => decide (num i > num j), rfl, W, st, hfp, hpos, ?_, ⟨rfl, rfl, rfl, fun b o e => Heap.get?_push_of_some _ e⟩, ?_⟩
  · constructor
    · rintro s1 s2 ⟨a, b, c, d⟩ m
      refine ⟨(show s2.gens = s1.gens from m.gens).trans a, m.drawn.trans b, m.os.trans c, fun x o e => m.heap x o (fun hm => ?_) (d x o e)⟩
      have lt := Heap.lt_size e
      rcases List.mem_cons.mp hm with rfl | hm
      · have lt' : (s.heap.push { cls := .type "list_iterator", data := .fields #[.ref l, .int 0 0] }).objs.size < s.heap.objs.size := lt
        rw [Heap.size_push] at lt'
        omega
      · rw [List.mem_singleton.mp hm] at lt
        exact Nat.lt_irrefl _ lt
    · intro i k s1 s2 h _
      exact h
    · intro i v s1 o Q E hi hP hJ hSt hS hq
      refine ht i v hP s1 hJ.2.2.2 Q E fun u h' tk htk hk => ?_
      exact hq _ _ ⟨hJ.1, hJ.2.1, hJ.2.2.1, fun b o e => hk _ _ (hJ.2.2.2 b o e)⟩ (W.frame _ s1 h' tk hSt htk fun b _ o e => hk _ _ e) (hk _ _ hS) ⟨_, rfl⟩ fun _ _ h => h
    · rintro i j ki kj s1 Q E _ ⟨t, rfl⟩ ⟨u, rfl⟩ hq
      exact richCompare_gives (op := .Gt) (typeIs_int s1 _ t) (typeIs_int s1 _ u) F.slot_int_gt F.entry_int_gt (F.args_int_gt_2 _ _) (gives_int_gt _ _ t u) (fun x => nomatch x) hq
  · intro v s' hP hJ
    rw [back s' hJ]
    obtain ⟨b1, b2⟩ := argBest_gt num (its.size - 1)
    exact h1 _ v hP (fun j hj => b2 j (by omega)) _ _ hJ.2.2.2
end
section
variable {X : Cx} {pins : List (Addr × Obj)} {σ : L2.St} {H : Hp} {s : Shared}
/-- the lambda is made: the function at f, its code object at c2; the heap is as it was, or the table has grown -/
theorem lam_mk {tb cg : Addr} {ar : Arguments} {bd : Expr} {sc : Scope} {lp : Pos} {EE QQ : Value → Shared → Prop} (J : Inv X pins σ H s) (hB : LamX.TabB X.base X.mg cg tb) (hcd : X.env.code = .ref cg) (hq : X.env.qual ++ "<lambda>" = qLam)
    (hT : TabQ H tb qLam) (hdf : defaultsOf ar X.env = ([], [])) (hcl : closureFor sc X.env = pure [])
    (K : ∀ (f c2 : Addr) (pmv ctv : Value) (H' : Hp) (s2 : Shared), Inv X pins σ H' s2 → Same H H' → s2.heap.get? f = some (PySem.W.kla_obj "<lambda>" qLam ar bd sc [] pmv c2 ctv) → s2.heap.CodeRec (.ref c2) qLam → QQ (.ref f) s2) :
    wpAny (model X.prog X.w) X.A (eval (.Lambda ar bd sc lp) X.env) QQ EE s := by
  have old := hT
  obtain ⟨tab, e1, e2, e3⟩ := hT
  have mT : s.heap.get? tb = some { cls := .none, data := .fields tab } := J.hok tb _ e1
  refine PySem.W.kla_eval hdf ?_
  rw [hq]
  cases hf : codeAmong lp tab.toList with
  | some cv =>
    obtain ⟨c2, rfl, hC⟩ := e3 lp cv hf
    refine PySem.W.kla_makeFunctionHit (P := tb) (c := cg) (ps := tab) hcl J.ok.glob (J.mod.glob.keeps J.bk) hcd (hB.code.keeps J.bk) mT e2 hf (hB.bm.keeps J.bk) fun tv hp n k _ => ?_
    obtain ⟨⟨oc, vs, t, g1, g2, g3⟩, _, _⟩ := J.hok c2 _ hC
    exact K _ c2 _ tv H _ (J.kept fun b o e => Heap.get?_push_of_some _ (k b o e)) (Same.refl H) (Heap.get?_push_size _ rfl) ⟨c2, oc, vs, t, rfl, Heap.get?_push_of_some _ (k _ _ g1), g2, g3⟩
  | none =>
    refine PySem.W.kla_makeFunction (P := tb) (c := cg) (ps := tab) hcl J.ok.glob (J.mod.glob.keeps J.bk) hcd (hB.code.keeps J.bk) mT e2 hf hB.gP (hB.bm.keeps J.bk) fun c2 tv hp n k sz _ rc gr => ?_
    obtain ⟨c3, oc, vs, t, z, g1, g2, g3⟩ := rc
    cases z
    have fresh : H c2 = none := J.hok.fresh sz
    have push : ∀ {b : Addr} {o u : Obj}, hp.get? b = some o → (hp.push u).get? b = some o := fun e => Heap.get?_push_of_some _ e
    have J2 := LamX.inv_table (t' := n) (q := qLam) (more := #[rawInt lp.line, rawInt lp.col, .ref c2]) J e1 (fun b o nb e => push (u := PySem.W.kla_obj "<lambda>" qLam ar bd sc [] ((X.mg "__name__").getD .none) c2 tv) (k b o nb e)) (push gr) sz ⟨oc, vs, t, push g1, g2, g3⟩
    have n1 : tb ≠ c2 := ne_of_none e1 fresh
    refine K _ c2 _ tv _ _ J2 ⟨fun b o e w => ?_, fun b e => ?_, fun p _ t => ?_⟩ (Heap.get?_push_size _ rfl) ⟨c2, oc, vs, t, rfl, push g1, g2, g3⟩
    · rw [upd_ne (ne_of_none e fresh), upd_ne (fun h => by
        rw [h, e1] at e
        cases e
        exact w)]
      exact e
    · by_cases h1 : b = c2
      · rw [h1]; exact fresh
      · rw [upd_ne h1] at e
        by_cases h2 : b = tb
        · rw [h2, upd_same] at e; cases e
        · rw [upd_ne h2] at e
          exact e
    · have code : ∀ {c : Addr}, H c = some (LamX.CodeO c qLam) → upd (upd H tb (.tbl (tab ++ #[rawInt lp.line, rawInt lp.col, .ref c2]))) c2 (LamX.CodeO c2 qLam) c = some (LamX.CodeO c qLam) := fun {c} e => by
        rw [upd_ne (ne_of_none e fresh), upd_ne (fun h => by
          rw [h, e1] at e
          unfold LamX.CodeO at e
          cases e)]
        exact e
      by_cases h2 : p = tb
      · subst h2
        have eL : (tab ++ #[rawInt lp.line, rawInt lp.col, Value.ref c2]).toList = tab.toList ++ [rawInt lp.line, rawInt lp.col, .ref c2] := by simp
        refine ⟨_, by rw [upd_ne n1, upd_same], by rw [eL]; exact PySem.TriplesOk_snoc _ _ _ _ e2, fun po cv hcv => ?_⟩
        rw [eL] at hcv
        rcases LamX.among_app _ e2 hcv with z | z
        · obtain ⟨c, y1, y2⟩ := e3 po cv z
          exact ⟨c, y1, code y2⟩
        · exact ⟨c2, z, upd_same⟩
      · obtain ⟨ps, a1, a2, a3⟩ := t
        refine ⟨ps, by rw [upd_ne (ne_of_none a1 fresh), upd_ne h2]; exact a1, a2, fun po cv hcv => ?_⟩
        obtain ⟨c, y1, y2⟩ := a3 po cv hcv
        exact ⟨c, y1, code y2⟩
end
def rMaxLam (K : PySem.W.Frag) (tb : Addr) : V → Hp → VK → Prop := fun x H Q => TabQ H tb qLam ∧ ∃ (a : Addr) (ys : List V) (num : Nat → Int), x = .ref a ∧ SqL K H a ys ∧ 0 < ys.length ∧ (∀ i y, ys[i]? = some y → ∃ t xs, y = .ref t ∧ SqT K H t xs ∧ xs[0]? = some (.int (num i))) ∧
  ∀ i y H', ys[i]? = some y → (∀ j, j < ys.length → num j ≤ num i) → Same H H' → Q y H'
def tMaxLam (K : PySem.W.Frag) (tb : Addr) (te : TE) : TE := fun σ H Q => tCons te tNil σ H fun vs H1 => ∃ x, vs = [x] ∧ rMaxLam K tb x H1 Q
section
variable {X : Cx}
theorem pe_maxLam {e : Expr} {te : TE} {a : Str} {tb cg : Addr} {ar : Arguments} {j : Nat} {p p1 p2 p3 lp pos kp : Pos} (hc : X.calm = true) (hrm : X.A.depth < recursionLimit) (he : PE X e te) (hg : Gl X "max") (hm : X.mg "max" = none)
    (hB : LamX.TabB X.base X.mg cg tb) (hcd : X.env.code = .ref cg) (hq : X.env.qual ++ "<lambda>" = qLam) (hdf : defaultsOf ar X.env = ([], [])) (hcl : closureFor (oneScope a) X.env = pure []) (hdb : (a == ("__debug__" : Str)) = false)
    (hbind : ∀ (t : Addr) (pm cdv ctv : Value), bindArgs (PySem.W.kla_fn "<lambda>" qLam ar (.Subscript (.Name a p1) (.Constant (.int 0) j p2) p3) (oneScope a) [] pm cdv ctv) ⟨[.ref t], []⟩ = pure [(a, .ref t)])
    (hs1 : starEach [e] X.env = (false, eval e X.env) :: starEach [] X.env := by rfl)
    (hs : backTo pos (starEach [e] X.env) = (false, eval e X.env) :: backTo pos (starEach [] X.env) := by rfl) (hpl : (backTo pos (starEach [e] X.env)).any (·.1) = false := by rfl)
    (hall : (backToKw pos (keywordEach [⟨some (Str.ofString "key"), .Lambda ar (.Subscript (.Name a p1) (.Constant (.int 0) j p2) p3) (oneScope a) lp, kp⟩] X.env)).all (·.1.isSome) = true := by rfl)
    (hnone : (backToKw pos (keywordEach [⟨some (Str.ofString "key"), .Lambda ar (.Subscript (.Name a p1) (.Constant (.int 0) j p2) p3) (oneScope a) lp, kp⟩] X.env)).any (·.1.isNone) = false := by rfl)
    (hks : (backToKw pos (keywordEach [⟨some (Str.ofString "key"), .Lambda ar (.Subscript (.Name a p1) (.Constant (.int 0) j p2) p3) (oneScope a) lp, kp⟩] X.env)).filterMap (·.1) = [Str.ofString "key"] := by rfl) :
    PE X (.Call (.Name (Str.ofString "max") p) [e] [⟨some (Str.ofString "key"), .Lambda ar (.Subscript (.Name a p1) (.Constant (.int 0) j p2) p3) (oneScope a) lp, kp⟩] pos) (tMaxLam X.K tb te) := by
  refine ⟨fun pins s σ H Q I h => ?_⟩
  refine wpAny_Call_Name_kw (ld_blt I hg hm (by decide +kernel : bootBuiltins (Str.ofString "max") = some (.builtin "max")) ?_ (by decide) (by decide))
  refine PyProof.Rows.callWith_kw (thn ((pa_cons he pa_nil hs1 : PA X [e] (tCons te tNil)).run pos pins s σ H _ I h) fun us s1 ⟨vs, H1, I1, r1, q1⟩ => ?_) hs hpl hall hnone
  obtain ⟨x, rfl, q1⟩ := q1
  obtain ⟨u, rfl, rx⟩ := vals1 r1
  obtain ⟨hT, l, ys, num, rfl, hl, hpos, htup, hQ⟩ := q1
  cases rx
  show wpAny _ _ (evalAll ((do let v ← eval (.Lambda ar (.Subscript (.Name a p1) (.Constant (.int 0) j p2) p3) (oneScope a) lp) X.env; standAt pos; pure v) :: (backToKw pos (keywordEach [] X.env)).map (·.2))) _ _ s1
  refine wpAny_evalAll_cons (wpAny_bind (lam_mk I1 hB hcd hq hT hdf hcl fun f c2 pmv ctv H2 s2 I2 s12 ho hC => wpAny_bind (wpAny_standAt (wpAny_pure ?_))))
  show wpAny _ _ (evalAll []) _ _ s2
  refine wpAny_pure ?_
  rw [hks]
  show wpAny _ _ (call (.builtin "max") [.ref l] [(Str.ofString "key", .ref f)]) _ _ s2
  obtain ⟨its, rv, pl, hz⟩ := I2.list (s12.seq hl)
  have hlen := rv.length
  refine max_key_raw (num := num) (I2.ok.hd hc) pl.isList (by rw [List.size_toArray]; omega) (fun i v hv s' hk Q' E' hq' => ?_) fun i v hv hmx h' tk hk => ?_
  · have hv : its[i]? = some v := by simpa using hv
    have hlt := (List.getElem?_eq_some_iff.mp hv).1
    obtain ⟨y, hy⟩ : ∃ y, ys[i]? = some y := ⟨ys[i]'(by omega), by simp⟩
    obtain ⟨u', hu, ry⟩ := rv.get hy
    rw [hv] at hu
    cases hu
    obtain ⟨t, xs, rfl, hX, h0⟩ := htup i y hy
    cases ry
    obtain ⟨its2, r2, p2', z2⟩ := I2.tuple (sameT s12 hX)
    obtain ⟨u0, hu0, ru0⟩ := r2.get h0
    obtain ⟨tk0, rfl⟩ := ru0
    obtain ⟨c3, oc, vs, tq, z, g1, g2, g3⟩ := hC
    exact lam_turn (cl := []) (pm := pmv) (ctv := ctv) hrm (hk _ _ ho) ⟨c3, oc, vs, tq, z, hk _ _ g1, g2, g3⟩ (hbind t pmv (.ref c2) ctv) (I2.nolimit.keeps hk) (p2'.keeps hk) (by simpa using hu0) hdb fun h' tk htk hk' => hq' _ _ _ htk hk'
  · have hv : its[i]? = some v := by simpa using hv
    have hlt := (List.getElem?_eq_some_iff.mp hv).1
    obtain ⟨y, hy⟩ : ∃ y, ys[i]? = some y := ⟨ys[i]'(by omega), by simp⟩
    obtain ⟨u', hu, ry⟩ := rv.get hy
    rw [hv] at hu
    cases hu
    exact ⟨y, H2, I2.kept hk, ry, hQ i y H2 hy (fun k hk => hmx k (by rw [List.size_toArray]; omega)) s12⟩
end
end Ew
namespace Ew
open PySem PySem.Spec PyProof.Rows L2
/-! ### defs in which repr is called: they ask that none is under way -/
structure CalG (P : Program) (w : World) (K : PySem.W.Frag) (mg : Str → Option Value) (base : Heap) (k : Nat) (x : Str) (sp : Sp) : Prop where
  ex : ∃ f fd ps, FnOkG P w K mg base k f fd ps sp ∧ mg x = some (.ref f) ∧ PySem.W.keepIn K (.ref f) = true ∧ Binds K fd ps []
section
variable {X : Cx} {j k : Nat} {sp : Sp} {x : Str} {p pos : Pos} {e : Expr} {es : List Expr} {t : TA}
theorem pe_cG (c : CalG X.prog X.w X.K X.mg X.base k x sp) (hgd : X.A.guards = some []) (hr : Room j X.A) (hk : k ≤ j) (hg : Gl X x) (ha : PA X (e :: es) t)
    (hdb : (x == ("__debug__" : Str)) = false := by decide) (he : starEach (e :: es) X.env = (false, eval e X.env) :: starEach es X.env := by rfl) (hpl : (backTo pos (starEach es X.env)).any (·.1) = false := by rfl) :
    PE X (.Call (.Name x p) (e :: es) [] pos) (tCall sp [] E0 t) := by
  obtain ⟨f, fd, ps, F, hm, kp, b⟩ := c.ex
  exact pe_callG F hgd (hr.mono hk) hg hm kp b ha hdb he hpl
end
section
variable {P : Program} {w : World} {K : PySem.W.Frag} {mg : Str → Option Value} {base : Heap} {C : Addr}
theorem calG_of {x : Str} {st : Stmt} {N ps : List Str} {k : Nat} {sp : Sp} (D : DefAt K mg x st ps) (sc : FnScope N ps (defScope st)) (len : ∀ vs H Q E, sp vs H Q E → vs.length = ps.length)
    (hbody : ∀ (f : Addr) (cdv : Value) (A : Around) (outer : List Env) (s : Shared) (H : Hp) (vs : List V) (Q : VK) (E : XK), A.guards = some [] → Room k (A.deeper (envOfC x (defScope st) s.heap.objs.size f cdv)) → sp vs H Q E →
      ∃ t, PSs (cxOf CX0 P w K mg base N x (defScope st) f cdv A outer s H E).nox (defBody st) t ∧ t { nx := fun _ H' => Q .non H', rt := Q } (start N vs) H) : CalG P w K mg base (k + 1) x sp := by
  obtain ⟨f, fd, F, b, g⟩ := D.ex
  exact ⟨f, fd, ps, okG F sc len (hbody f), g, F.kp, b⟩
variable {τ β : Type} {ks : Ka K C τ} {kr : Kd K C β} {pre : τ → Prop} {g : τ → β}
theorem calDG {x : Str} {st : Stmt} {N ps : List Str} {k : Nat} (D : DefAt K mg x st ps) (sc : FnScope N ps (defScope st)) (hn : ks.n = ps.length)
    (hbody : ∀ (f : Addr) (cdv : Value) (A : Around) (outer : List Env) (s : Shared) (H : Hp) (vs : List V) (Q : VK) (E : XK) (S : List Addr) (a : τ), A.guards = some [] → Room k (A.deeper (envOfC x (defScope st) s.heap.objs.size f cdv)) → Fr C S H → ks.rps S H vs a → pre a → (∀ v H', Same H H' → kr.rp S H' v (g a) → Q v H') →
      ∃ t, PSs (cxOf CX0 P w K mg base N x (defScope st) f cdv A outer s H E).nox (defBody st) t ∧ t { nx := fun _ H' => Q .non H', rt := Q } (start N vs) H) : CalG P w K mg base (k + 1) x (spD ks kr pre g) :=
  calG_of D sc (fun vs H Q E ⟨S, a, _, h, _⟩ => by rw [ks.len h, hn]) fun f cdv A outer s H vs Q E hgd hr ⟨S, a, h1, h2, h3, h4⟩ => hbody f cdv A outer s H vs Q E S a hgd hr h1 h2 h3 h4
end
/-! ### texts -/
section
variable {K : PySem.W.Frag} {C : Addr} {S : List Addr} {H : Hp} {σ : L2.St} {ta tb : TE}
theorem kL_strs {v : V} {l : List Str} (h : (kL (kS (K := K) (C := C))).rp S H v l) : ∃ a, v = .ref a ∧ a ∉ S ∧ H a = some (.lst (l.map V.str)) := by
  obtain ⟨a, vs, rfl, n, h1, p, _⟩ := h
  have e : ∀ {vs : List V} {l : List Str}, Paired ((kS (K := K) (C := C)).rp S H) vs l → vs = l.map V.str := by
    intro vs l p
    induction p with
    | nil => rfl
    | cons r _ ih => rw [ih, List.map_cons]; congr 1
  rw [e p] at h1
  exact ⟨a, rfl, n, h1⟩
theorem inVS (i : Str) (l : List Str) : inV (.str i) (l.map V.str) = decide (i ∈ l) := by
  unfold inV
  rw [List.any_map]
  induction l with
  | nil => rfl
  | cons a l ih =>
    rw [List.any_cons, ih]
    have e : ((fun y => eqV y (V.str i)) ∘ V.str) a = decide (a = i) := by
      show eqV (V.str a) (V.str i) = _
      by_cases h : a = i
      · subst h
        simp [eqV]
      · simp [eqV, h]
    rw [e]
    by_cases h : a = i
    · subst h; simp
    · have h' : ¬ i = a := fun z => h z.symm
      simp [h, h']
theorem flatS (l : List Str) : (l.map V.str).all flatV = true := by
  rw [List.all_map]
  exact List.all_eq_true.mpr fun _ _ => rfl
theorem ev_inSL {i : Str} {l : List Str} (ha : Ev (K := K) (C := C) kS S H ta σ i) (hb : Ev (K := K) (C := C) (kL kS) S H tb σ l) : Ev (K := K) (C := C) kB S H (tOp (rIn K false) ta tb) σ (decide (i ∈ l)) :=
  ev_op2 ha hb fun v w H1 _ e1 e2 Q q => by
    obtain ⟨a, rfl, _, h⟩ := kL_strs e2
    refine ⟨a, _, rfl, .inl (.inl (.inl h)), by rw [e1]; rfl, flatS l, ?_⟩
    rw [e1, if_neg Bool.false_ne_true, inVS]
    exact q _ H1 (Same.refl _) rfl
theorem ev_ninSL {i : Str} {l : List Str} (ha : Ev (K := K) (C := C) kS S H ta σ i) (hb : Ev (K := K) (C := C) (kL kS) S H tb σ l) : Ev (K := K) (C := C) kB S H (tOp (rIn K true) ta tb) σ (!decide (i ∈ l)) :=
  ev_op2 ha hb fun v w H1 _ e1 e2 Q q => by
    obtain ⟨a, rfl, _, h⟩ := kL_strs e2
    refine ⟨a, _, rfl, .inl (.inl (.inl h)), by rw [e1]; rfl, flatS l, ?_⟩
    rw [e1, if_pos rfl, inVS]
    exact q _ H1 (Same.refl _) rfl
/-! ### small numbers shown -/
theorem show_intS {i : Int} (h : -1 ≤ i ∧ i < 10) : PyData.showable (.int i) = true ∧ (PyData.shown (.int i)).length ≤ 2 := by
  by_cases h0 : i = -1
  · subst h0
    exact ⟨rfl, by decide +kernel⟩
  · obtain ⟨a, b⟩ := show_int (i := i) ⟨by omega, by omega⟩
    exact ⟨a, by omega⟩
/-- repr(number) -/
theorem ev_reprI {i : Int} (hx : Ev (K := K) (C := C) kI S H ta σ i) (h : -1 ≤ i ∧ i < 10) :
    Ev (K := K) (C := C) kS S H (tCB (rRepr K) (tCons ta tNil)) σ (PyData.shown (.int i)) := fun H1 s Q q => by
  refine hx H1 s _ fun v H2 s2 r2 => ?_
  cases (show v = .int i from r2)
  have sh := show_intS h
  exact ⟨_, .int i, rfl, .int i, sh.1, Nat.zero_le _, Nat.le_trans sh.2 (szL (by omega)), q _ _ s2 rfl⟩
/-- repr(tuple of small numbers) -/
theorem ev_reprT {x : List Int} (hx : Ev (K := K) (C := C) (kT kI) S H ta σ x) (lx : x.length ≤ 6) (bx : ∀ z ∈ x, Dig z) :
    Ev (K := K) (C := C) kS S H (tCB (rRepr K) (tCons ta tNil)) σ (PyData.shown (dT x)) := fun H1 s Q q => by
  refine hx H1 s _ fun v H2 s2 r2 => ?_
  obtain ⟨t, rfl, h1, _⟩ := kT_ints r2
  have sh := show_dT bx
  have dp : Dp K H2 (.ref t) (dT x) := .tup h1 (dpAll_ints x)
  exact ⟨_, dT x, rfl, dp, sh.1, Nat.le_trans (Nat.succ_le_succ (depAll_map PyData.int (n := 0) (fun _ => Nat.le_refl _) x)) (by decide), Nat.le_trans sh.2 (szL (by omega)), q _ _ s2 rfl⟩
end
/-! ### the greatest of some numbers -/
def maxR : List Int → Int → Int
  | [], x => x
  | y :: r, x => maxR r (if x < y then y else x)
def maxL : List Int → Int
  | [] => 0
  | x :: r => maxR r x
theorem maxR_mem : ∀ {r : List Int} {x : Int}, maxR r x ∈ x :: r
  | [], x => by simp [maxR]
  | y :: r, x => by
    unfold maxR
    have h := maxR_mem (r := r) (x := if x < y then y else x)
    rcases List.mem_cons.mp h with h | h
    · rw [h]
      split <;> simp
    · exact List.mem_cons_of_mem _ (List.mem_cons_of_mem _ h)
theorem maxR_ge : ∀ {r : List Int} {x y : Int}, y ∈ x :: r → y ≤ maxR r x
  | [], x, y, h => by
    rw [List.mem_singleton.mp h]
    exact Int.le_refl _
  | z :: r, x, y, h => by
    unfold maxR
    rcases List.mem_cons.mp h with rfl | h
    · refine Int.le_trans ?_ (maxR_ge (List.Mem.head _))
      split <;> omega
    rcases List.mem_cons.mp h with rfl | h
    · refine Int.le_trans ?_ (maxR_ge (List.Mem.head _))
      split <;> omega
    · exact maxR_ge (List.mem_cons_of_mem _ h)
theorem maxL_mem {l : List Int} (h : l ≠ []) : maxL l ∈ l := by
  cases l with
  | nil => exact absurd rfl h
  | cons x r => exact maxR_mem
theorem maxL_ge {l : List Int} {y : Int} (h : y ∈ l) : y ≤ maxL l := by
  cases l with
  | nil => cases h
  | cons x r => exact maxR_ge h
theorem maxL_eq {l : List Int} {m : Int} (h1 : m ∈ l) (h2 : ∀ y ∈ l, y ≤ m) : m = maxL l := by
  have hne : l ≠ [] := fun e => by rw [e] at h1; cases h1
  have := h2 _ (maxL_mem hne)
  have := maxL_ge h1
  omega
theorem ev_maxL {K : PySem.W.Frag} {C : Addr} {S : List Addr} {H : Hp} {σ : L2.St} {ta : TE} {l : List Int} (h : Ev (K := K) (C := C) (kL kI) S H ta σ l) (hne : l ≠ []) : Ev (K := K) (C := C) kI S H (tCB (rMax K) (tCons ta tNil)) σ (maxL l) := fun H1 s Q q =>
  h H1 s _ fun v H2 s2 r => by
  obtain ⟨a, rfl, _, h1, _⟩ := kL_ints r
  refine ⟨a, l, rfl, .inl (.inl h1), List.length_pos_iff.mpr hne, fun m hm hb => q _ H2 s2 ?_⟩
  show V.int m = V.int (maxL l)
  rw [maxL_eq hm hb]
/-! ### list(range(n)), tuple(range(n)) -/
theorem rg_iota {n : Int} : rgV 0 n = (iota n).map V.int := by
  unfold rgV iota
  rw [List.map_map, Int.sub_zero]
  refine List.map_congr_left fun i _ => ?_
  show V.int (0 + (i : Int)) = V.int (i : Int)
  rw [Int.zero_add]
section
variable {K : PySem.W.Frag} {C : Addr} {S : List Addr} {H : Hp} {σ : L2.St} {ta : TE} {n : Int}
theorem evn_lrg (h : Ev (K := K) (C := C) kI S H ta σ n) (fr : Fr C S H) (hn : 0 ≤ n ∧ n ≤ 1000) : EvN (K := K) (C := C) (kL kI) S H (tLstRg (tRg1 ta)) σ (iota n) := fun H1 s Q q =>
  h H1 s _ fun v H2 s2 r => by
  cases (show v = .int n from r)
  refine ⟨n, rfl, RgOk.of_le (by omega) (by omega) (by omega) (by omega), fun p np => ?_⟩
  rw [rg_iota]
  exact q p _ (s2.free np) (s2.trans (sameU np)) ⟨p, _, rfl, (fr.same (s.trans s2)).out np, upd_same, paired_ints _, by rw [iota_len]; omega⟩
theorem ev_trg (h : Ev (K := K) (C := C) kI S H ta σ n) (hn : 0 ≤ n ∧ n ≤ 1000) : Ev (K := K) (C := C) (kT kI) S H (tTupRg (tRg1 ta)) σ (iota n) := fun H1 s Q q =>
  h H1 s _ fun v H2 s2 r => by
  cases (show v = .int n from r)
  refine ⟨n, rfl, RgOk.of_le (by omega) (by omega) (by omega) (by omega), fun p np => ?_⟩
  rw [rg_iota]
  exact q _ _ (s2.trans (sameU np)) ⟨p, _, rfl, .inl (.inl upd_same), paired_ints _, by rw [iota_len]; omega⟩
end
end Ew
namespace Ew
open PySem PySem.Spec PyProof.Rows L2
/-! ### small data: what its repr asks -/
structure Sm (n b : Nat) (d : PyData) : Prop where
  can : d.showable = true
  dep : d.depth ≤ n
  len : d.shown.length ≤ b
theorem Sm.mono {n m b c : Nat} {d : PyData} (h : Sm n b d) (h1 : n ≤ m) (h2 : b ≤ c) : Sm m c d := ⟨h.can, Nat.le_trans h.dep h1, Nat.le_trans h.len h2⟩
theorem showAll_of : ∀ {ds : List PyData}, (∀ d ∈ ds, d.showable = true) → PyData.showableAll ds = true
  | [], _ => rfl
  | d :: ds, h => by
    show (PyData.showable d && PyData.showableAll ds) = true
    rw [h d (by simp), showAll_of fun x hx => h x (by simp [hx])]
    rfl
theorem depAll_of {n : Nat} : ∀ {ds : List PyData}, (∀ d ∈ ds, d.depth ≤ n) → PyData.depthAll ds ≤ n
  | [], _ => Nat.zero_le _
  | d :: ds, h => Nat.max_le.mpr ⟨h d (by simp), depAll_of fun x hx => h x (by simp [hx])⟩
theorem shownAll_eq : ∀ ds : List PyData, PyData.shownAll ds = ds.map PyData.shown
  | [] => rfl
  | d :: ds => by
    show PyData.shown d :: PyData.shownAll ds = _
    rw [shownAll_eq ds]
    rfl
theorem sm_list {n b : Nat} {ds : List PyData} (h : ∀ d ∈ ds, Sm n b d) : Sm (n + 1) (3 + ds.length * (b + 2)) (.list ds) := by
  refine ⟨showAll_of fun d hd => (h d hd).can, Nat.succ_le_succ (depAll_of fun d hd => (h d hd).dep), ?_⟩
  show (listText (PyData.shownAll ds)).length ≤ _
  rw [shownAll_eq]
  have h1 := listText_le (ds.map PyData.shown)
  have h2 := lens_map PyData.shown b ds fun d hd => (h d hd).len
  omega
theorem sm_tuple {n b : Nat} {ds : List PyData} (h : ∀ d ∈ ds, Sm n b d) : Sm (n + 1) (3 + ds.length * (b + 2)) (.tuple ds) := by
  refine ⟨showAll_of fun d hd => (h d hd).can, Nat.succ_le_succ (depAll_of fun d hd => (h d hd).dep), ?_⟩
  show (tupleText (PyData.shownAll ds)).length ≤ _
  rw [shownAll_eq]
  have h1 := tupleText_le (ds.map PyData.shown)
  have h2 := lens_map PyData.shown b ds fun d hd => (h d hd).len
  omega
theorem sm_dig {i : Int} (h : Dig i) : Sm 0 1 (.int i) := ⟨(show_int h).1, Nat.zero_le _, (show_int h).2⟩
theorem sm_neg : Sm 0 2 (.int (-1)) := ⟨by decide +kernel, Nat.zero_le _, by decide +kernel⟩
theorem sm_non : Sm 0 4 .none := ⟨rfl, Nat.zero_le _, by decide +kernel⟩
theorem sm_bl (b : Bool) : Sm 0 5 (.bool b) := ⟨(show_bool b).1, Nat.zero_le _, (show_bool b).2⟩
theorem sm_nil : Sm 1 2 (.list []) := ⟨rfl, Nat.le_refl _, by decide +kernel⟩
theorem sm_tnil : Sm 1 2 (.tuple []) := ⟨rfl, Nat.le_refl _, by decide +kernel⟩
theorem sm_dic : Sm 1 2 (.dict []) := ⟨by decide +kernel, by decide +kernel, by decide +kernel⟩
/-- few small ints -/
def SmI (w : List Int) : Prop := w.length ≤ 20 ∧ ∀ x ∈ w, Dig x
theorem sm_ints {w : List Int} (h : ∀ x ∈ w, Dig x) : ∀ d ∈ w.map PyData.int, Sm 0 1 d := by
  intro d hd
  obtain ⟨x, hx, rfl⟩ := List.mem_map.mp hd
  exact sm_dig (h x hx)
theorem sm_dT {w : List Int} (h : SmI w) : Sm 2 400 (dT w) := by
  refine (sm_tuple (sm_ints h.2)).mono (by decide) ?_
  have := h.1
  rw [List.length_map]
  omega
/-- a value that is small data -/
def Nice (K : PySem.W.Frag) (P : Addr → Prop) (n b : Nat) (H : Hp) (v : V) : Prop := ∃ d, Dq K P H v d ∧ Sm n b d
section
variable {K : PySem.W.Frag} {P : Addr → Prop} {n b : Nat} {H H' : Hp} {v : V}
theorem Nice.over (s : Over P H H') (h : Nice K P n b H v) : Nice K P n b H' v := let ⟨d, h1, h2⟩ := h; ⟨d, h1.over s, h2⟩
theorem Nice.mono {m c : Nat} (h : Nice K P n b H v) (h1 : n ≤ m) (h2 : b ≤ c) : Nice K P m c H v := let ⟨d, a, z⟩ := h; ⟨d, a, z.mono h1 h2⟩
theorem Nice.imp {P' : Addr → Prop} (s : ∀ a xs, H a = some (.lst xs) → P a → P' a) (h : Nice K P n b H v) : Nice K P' n b H v := let ⟨d, a, z⟩ := h; ⟨d, a.imp s, z⟩
theorem nice_row {w : List Int} (h : RowT K H v w) (s : SmI w) : Nice K P 2 400 H v := ⟨_, dq_dT h, sm_dT s⟩
theorem sm_app {n b : Nat} {ds es : List PyData} (h1 : ∀ d ∈ ds, Sm n b d) (h2 : ∀ d ∈ es, Sm n b d) : ∀ d ∈ ds ++ es, Sm n b d := fun d h => (List.mem_append.mp h).elim (h1 d) (h2 d)
/-- ints, such a value, ints -/
theorem nice_mid {p : Addr} {a c : List Int} {one : V} (h : SqT K H p (a.map V.int ++ [one] ++ c.map V.int)) (h1 : Nice K P 1 6 H one) (ha : SmI a) (hc : SmI c) : Nice K P 2 400 H (.ref p) := by
  obtain ⟨d, hd, sd⟩ := h1
  refine ⟨.tuple (a.map .int ++ [d] ++ c.map .int), .tup h (dqA_app (dqA_app (dqA_ints a) (.cons hd .nil)) (dqA_ints c)), ?_⟩
  have h0 : ∀ z ∈ a.map PyData.int ++ [d] ++ c.map PyData.int, Sm 1 6 z := sm_app (sm_app (fun z hz => (sm_ints ha.2 z hz).mono (by decide) (by decide)) (fun z hz => by rw [List.mem_singleton.mp hz]; exact sd)) (fun z hz => (sm_ints hc.2 z hz).mono (by decide) (by decide))
  refine (sm_tuple h0).mono (Nat.le_refl _) ?_
  rw [List.length_append, List.length_append, List.length_map, List.length_map]
  show 3 + (a.length + 1 + c.length) * 8 ≤ 400
  have := ha.1
  have := hc.1
  omega
/-- a list of such values, as data -/
theorem nice_all : ∀ {vs : List V}, (∀ v ∈ vs, Nice K P n b H v) → ∃ ds, DqA K P H vs ds ∧ ds.length = vs.length ∧ ∀ d ∈ ds, Sm n b d
  | [], _ => ⟨[], .nil, rfl, fun d h => by simp at h⟩
  | v :: vs, h => by
    obtain ⟨d, h1, h2⟩ := h v (by simp)
    obtain ⟨ds, h3, h4, h5⟩ := nice_all (vs := vs) fun x hx => h x (by simp [hx])
    refine ⟨d :: ds, .cons h1 h3, by rw [List.length_cons, List.length_cons, h4], fun z hz => ?_⟩
    rcases List.mem_cons.mp hz with e | e
    · rw [e]; exact h2
    · exact h5 z e
theorem nice_lst {a : Addr} {vs : List V} (p : P a) (e : H a = some (.lst vs)) (h : ∀ v ∈ vs, Nice K P n b H v) : Nice K P (n + 1) (3 + vs.length * (b + 2)) H (.ref a) := by
  obtain ⟨ds, h1, h2, h3⟩ := nice_all h
  refine ⟨.list ds, .lst p e h1, ?_⟩
  rw [← h2]
  exact sm_list h3
theorem nice_tup {a : Addr} {vs : List V} (e : SqT K H a vs) (h : ∀ v ∈ vs, Nice K P n b H v) : Nice K P (n + 1) (3 + vs.length * (b + 2)) H (.ref a) := by
  obtain ⟨ds, h1, h2, h3⟩ := nice_all h
  refine ⟨.tuple ds, .tup e h1, ?_⟩
  rw [← h2]
  exact sm_tuple h3
end
theorem SmI.sub {w v : List Int} (h : SmI w) (hl : v.length ≤ w.length) (hm : ∀ x ∈ v, x ∈ w) : SmI v := ⟨Nat.le_trans hl h.1, fun x hx => h.2 x (hm x hx)⟩
theorem cut_ints (w : List Int) (lo hi : Option Int) : ∃ v : List Int, cutV (w.map V.int) lo hi = v.map V.int ∧ v.length ≤ w.length ∧ ∀ x ∈ v, x ∈ w := by
  unfold cutV
  rw [List.length_map]
  refine ⟨(w.drop (HT.sIx w.length 0 lo)).take (HT.sIx w.length w.length hi - HT.sIx w.length 0 lo), by rw [List.map_take, List.map_drop], ?_, fun x hx => List.mem_of_mem_drop (List.mem_of_mem_take hx)⟩
  rw [List.length_take, List.length_drop]
  omega
theorem all_of {α : Type} {p : α → Prop} {xs : List α} {x : α} (h : x ∈ xs) (f : ∀ x ∈ xs, p x) : p x := f x h
end Ew
namespace Ew
open PySem PySem.Spec PyProof.Rows L2
/-! ### an own error whose __init__ calls its own base's __init__ -/
section
variable {X : Cx} {RE : Addr} {mc : Value}
theorem pe_reinit {x : Str} {e : Expr} {es : List Expr} {ta : TA} {p1 p2 pos : Pos} {pl : Sem Bool} (hg : Gl X x) (hm : X.mg x = some (.ref RE))
    (ga : PySem.W.specialIn X.K (.ref RE) "__getattribute__" = some (some (.builtin "type.__getattribute__"))) (rd : PySem.W.readsIn X.K RE mc = true) (fc : PySem.W.findCls X.K (.ref RE) mc "__init__" = some (.val (.builtin "ValueError.__init__")))
    (ha : PA X (e :: es) ta)
    (hdb : (x == ("__debug__" : Str)) = false := by decide)
    (hev : eval (.Call (.Attribute (.Name x p1) "__init__" p2) (e :: es) [] pos) X.env = (do
      let ov ← eval (.Name x p1) X.env
      standAt p2.atName
      let __x ← holding [ov] (getMethod ov "__init__" pl)
      match __x with
        | (f, first) => callWith pos f first (backTo pos (starEach (e :: es) X.env)) (backToKw pos (keywordEach [] X.env))) := by rfl)
    (he : starEach (e :: es) X.env = (false, eval e X.env) :: starEach es X.env := by rfl) (hpl : (backTo pos (starEach es X.env)).any (·.1) = false := by rfl) :
    PE X (.Call (.Attribute (.Name x p1) "__init__" p2) (e :: es) [] pos) (tVeI X.K ta) := by
  refine ⟨fun pins s σ H Q I h => PySem.W.methodCall_KW (ld_glob I hg hm ?_ hdb) hev⟩
  obtain ⟨m, hF⟩ := I.fr
  refine PySem.W.method_of_cls hF I.ok.mod.kin ga (PySem.W.cls_value I.kIn rd fc (by rfl) ?_)
  refine callWith_method1 (thn (ha.run pos pins _ σ H _ (I.tok (s.toks + 1)) h) fun uu s1 ⟨vs, H1, I1, r, q⟩ => ?_) he hpl
  obtain ⟨a, C, ws, rfl, hl, T, ho, q⟩ := q
  cases r with
  | cons r1 r2 =>
    cases r1
    refine oinit_ok T I1 ho ?_ fun s' I' => ⟨.non, H1, I', rfl, q⟩
    rw [← r2.length, sizeLine_eq]
    omega
end
theorem CX_mono {P : Program} {w : World} {outer : List Env} {H : Hp} {s : Shared} {E E' : XK} {u : Value} {s' : Shared} (h : L2.CX P w outer H s E u s') (m : ∀ c d H, E c d H → E' c d H) : L2.CX P w outer H s E' u s' := by
  obtain ⟨a, B, H', cls, d, h1, h2, h3, h4, h5, h6, h7, h8⟩ := h
  exact ⟨a, B, H', cls, d, h1, h2, h3, h4, h5, h6, h7, m _ _ _ h8⟩
/-- what the try takes, of a call whose way out is told for all states of n slots -/
theorem passes_all {X : Cx} {W : WX} {n : Nat} (tk : Takes X W) (hn : X.N.length = n) : Passes (L2.CX X.prog X.w) X fun cls d H => ∀ σ, σ.length = n → W cls d σ H := fun pins σ H s e s' I h =>
  passAt tk σ pins H s e s' I (CX_mono h fun _ _ _ q => q σ (I.len.trans hn))
end Ew
namespace Ew
open PySem PySem.Spec PyProof.Rows L2
abbrev sShI : Stmt := (inClass (top 3) 0)
/-! ### Short -/
def spSh (C : Addr) : Sp := fun vs H Q _ => ∃ (a : Addr) (v : V), vs = [.ref a, v] ∧ H a = some (exo a C none) ∧ ∀ dx, H dx = none → dx ≠ a → Q .non (upd (upd H dx (exd dx [(("works" : Str), v)])) a (exo a C (some dx)))
structure ShTxt (K : PySem.W.Frag) (mg : Str → Option Value) (BB RE : Addr) : Prop where
  ox : OexC K BB
  init : ∃ f fd, Fun K "__init__" "Short.__init__" sShI f fd ∧ Binds K fd ["self", "works"] [] ∧ PySem.W.findIn K (.ref BB) "__init__" = some (some (.ref f)) ∧ PySem.W.typeIn K (.ref f) = some (.type "function")
  gB : mg "Short" = some (.ref BB)
  gR : mg "ReadError" = some (.ref RE)
  rga : PySem.W.specialIn K (.ref RE) "__getattribute__" = some (some (.builtin "type.__getattribute__"))
  rrd : PySem.W.readsIn K RE (.type "type") = true
  rfc : PySem.W.findCls K (.ref RE) (.type "type") "__init__" = some (.val (.builtin "ValueError.__init__"))
  nop : PySem.W.findIn K (.ref BB) "works" = some none
  xf : XfC K BB
  te : PySem.W.exmOne K (.ref BB) (.ref BB) = some true
section
variable {P : Program} {w : World} {K : PySem.W.Frag} {mg : Str → Option Value} {base : Heap} {C BB RE : Addr}
theorem scShI : FnScope ["self", "works"] ["self", "works"] (defScope sShI) := ⟨rfl, rfl, rfl, by decide +kernel, rfl, by decide +kernel, by decide +kernel⟩
theorem ok_shI {f : Addr} {fd : FuncData} (F : Fun K "__init__" "Short.__init__" sShI f fd) (T : ShTxt K mg BB RE) : FnOk P w K mg base CX0 1 f fd ["self", "works"] (spSh BB) := by
  refine F.ok scShI (fun vs H Q E h => ?_) (fun cdv A outer s H vs Q E hr h => ?_)
  · obtain ⟨a, v, rfl, _⟩ := h
    rfl
  · obtain ⟨a, v, rfl, ha, q⟩ := h
    refine ⟨_, (pss_cons (ps_expr (pe_reinit (by rfl) T.gR T.rga T.rrd T.rfc (pa_cons (pv 0) (pa_cons pe_str pa_nil))))
 (pss_one (ps_ost (pv 0) (pv 1)))), ?_⟩
    refine ⟨_, rfl, a, BB, _, rfl, (by show 1 ≤ 1000; decide), T.ox, ha, ?_⟩
    refine ⟨_, rfl, _, rfl, a, BB, rfl, T.ox, T.nop, .inl ⟨ha, fun dx nx ne => ?_⟩⟩
    exact q dx nx ne
/-- raise Short(v) -/
theorem raisedS {H : Hp} {v : V} {E : XK} (h : ∀ dx Hf, Same H Hf → H dx = none → Hf dx = some (.xd [(("works" : Str), v)]) → E (.ref BB) (some dx) Hf) :
    [v].length ≤ 1000 ∧ ∀ a, H a = none → spSh BB (.ref a :: ([v] ++ [])) (upd H a (exo a BB none)) (fun u H2 => u = .non ∧ ∃ d fs, H2 a = some (exo a BB (some d)) ∧ H2 d = some (exd d fs) ∧ H d = none ∧ E (.ref BB) (some d) (upd (del H2 a) d (.xd fs))) (fun _ _ _ => False) := by
  refine ⟨by show 1 ≤ 1000; decide, fun a na => ⟨a, v, rfl, upd_same, fun dx nx ne => ⟨rfl, dx, _, upd_same, by rw [upd_ne ne, upd_same], by rw [upd_ne ne] at nx; exact nx, ?_⟩⟩⟩
  have nx' : H dx = none := by rw [upd_ne ne] at nx; exact nx
  refine h dx _ (.of fun b o e => ?_) nx' upd_same
  have nb : b ≠ dx := ne_of_none e nx'
  have nb2 : b ≠ a := ne_of_none e na
  rw [upd_ne nb]
  show del _ a b = some o
  unfold del
  rw [if_neg nb2, upd_ne nb2, upd_ne nb, upd_ne nb2]
  exact e
end
/-! ### defs that may raise -/
theorem q_callX {α : Type} {K : PySem.W.Frag} {C : Addr} {ka : Ka K C α} {S : List Addr} {H : Hp} {σ : L2.St} {sp : Sp} {E : XK} {t : TA} {x : α} {g : TG} {u : TS} {D : Ends} (h : EvA ka S H t σ x) (q : ∀ vs H2, Same H H2 → ka.rps S H2 vs x → sp (vs ++ []) H2 (fun v H3 => g v σ H3 (u D)) E) : tSeq (tAsg (tCall sp [] E t) g) u D σ H := h.use q
structure CalX (P : Program) (w : World) (K : PySem.W.Frag) (mg : Str → Option Value) (base : Heap) (k : Nat) (x : Str) (sp : Sp) : Prop where
  ex : ∃ f fd ps, FnOk P w K mg base (L2.CX P w) k f fd ps sp ∧ mg x = some (.ref f) ∧ PySem.W.keepIn K (.ref f) = true ∧ Binds K fd ps []
section
variable {X : Cx} {j k : Nat} {sp : Sp} {x : Str} {p pos : Pos} {e : Expr} {es : List Expr} {t : TA} {E : XK}
theorem pe_cX (c : CalX X.prog X.w X.K X.mg X.base k x sp) (hr : Room j X.A) (hk : k ≤ j) (hg : Gl X x) (hx : Passes (L2.CX X.prog X.w) X E) (ha : PA X (e :: es) t)
    (hdb : (x == ("__debug__" : Str)) = false := by decide) (he : starEach (e :: es) X.env = (false, eval e X.env) :: starEach es X.env := by rfl) (hpl : (backTo pos (starEach es X.env)).any (·.1) = false := by rfl) :
    PE X (.Call (.Name x p) (e :: es) [] pos) (tCall sp [] E t) := by
  obtain ⟨f, fd, ps, F, hm, kp, b⟩ := c.ex
  exact pe_call F (hr.mono hk) hg hm kp b .nil hx ha hdb he hpl
/-- what never leaves -/
theorem passF : Passes (L2.CX X.prog X.w) X (fun _ _ _ => False) := fun pins σ H s e s' I h => by
  obtain ⟨a, B, H', cls, d, h1, h2, h3, h4, h5, h6, h7, h8⟩ := h
  exact h8.elim
end
section
variable {P : Program} {w : World} {K : PySem.W.Frag} {mg : Str → Option Value} {base : Heap} {C : Addr}
theorem calX_of {x : Str} {st : Stmt} {N ps : List Str} {k : Nat} {sp : Sp} (D : DefAt K mg x st ps) (sc : FnScope N ps (defScope st)) (len : ∀ vs H Q E, sp vs H Q E → vs.length = ps.length)
    (hbody : ∀ (f : Addr) (fd : FuncData), Fun K x x st f fd → FnOk P w K mg base (L2.CX P w) (k + 1) f fd ps sp) : CalX P w K mg base (k + 1) x sp := by
  obtain ⟨f, fd, F, b, g⟩ := D.ex
  exact ⟨f, fd, ps, hbody f fd F, g, F.kp, b⟩
end
end Ew
namespace Ew
open PySem PySem.Spec PyProof.Rows L2
/-! ### prices and rings: mirrors, and why the ring is one -/
abbrev Swap := Int × Int × Int × Int
def setI {α : Type} (l : List α) (i : Int) (v : α) : List α := l.set i.toNat v
theorem setI_len {α : Type} (l : List α) (i : Int) (v : α) : (setI l i v).length = l.length := List.length_set
theorem at_setI {α : Type} [Inhabited α] {l : List α} {i j : Int} {v : α} (hi : 0 ≤ i ∧ i < l.length) (hj : 0 ≤ j) : at_ (setI l i v) j = if j = i then v else at_ l j := by
  unfold at_ setI
  rw [List.getD_eq_getElem?_getD, List.getElem?_set, List.getD_eq_getElem?_getD]
  by_cases h : j = i
  · subst h
    rw [if_pos rfl, if_pos (show j.toNat < l.length by omega), if_pos rfl]
    rfl
  · rw [if_neg (show ¬ i.toNat = j.toNat by omega), if_neg h]
abbrev LowD := List (Int × Swap)
def keysA (c : LowD) : List Int := c.map (·.1)
def getA (c : LowD) (t : Int) : Swap := ((c.find? fun p => decide (p.1 = t)).map (·.2)).getD (0, 0, 0, 0)
def putA : LowD → Int → Swap → LowD
  | [], g, e => [(g, e)]
  | p :: c, g, e => if p.1 = g then (g, e) :: c else p :: putA c g e
theorem getA_put {c : LowD} {g t : Int} {e : Swap} : getA (putA c g e) t = if t = g then e else getA c t := by
  induction c with
  | nil =>
    unfold getA putA
    rw [List.find?_cons]
    by_cases h : t = g
    · rw [if_pos h, show decide (g = t) = true by simp [h]] <;> rfl
    · rw [if_neg h, show decide (g = t) = false by simp; exact fun z => h z.symm] <;> rfl
  | cons p c ih =>
    unfold putA
    by_cases hp : p.1 = g
    · rw [if_pos hp]
      unfold getA
      rw [List.find?_cons, List.find?_cons]
      by_cases h : t = g
      · rw [if_pos h, show decide (g = t) = true by simp [h]] <;> rfl
      · rw [if_neg h, show decide (g = t) = false by simp; exact fun z => h z.symm, show decide (p.1 = t) = false by simp [hp]; exact fun z => h z.symm]
    · rw [if_neg hp]
      unfold getA at ih ⊢
      rw [List.find?_cons, List.find?_cons]
      by_cases h : p.1 = t
      · rw [show decide (p.1 = t) = true by simp [h], if_neg (fun z => hp (h.trans z))] <;> rfl
      · rw [show decide (p.1 = t) = false by simp [h]]
        exact ih
theorem keysA_put {c : LowD} {g t : Int} {e : Swap} : t ∈ keysA (putA c g e) ↔ t = g ∨ t ∈ keysA c := by
  induction c with
  | nil => simp [keysA, putA]
  | cons p c ih =>
    unfold putA
    by_cases hp : p.1 = g
    · rw [if_pos hp]
      simp [keysA, hp]
    · rw [if_neg hp]
      unfold keysA at ih ⊢
      rw [List.map_cons, List.map_cons, List.mem_cons, List.mem_cons, ih]
      constructor
      · rintro (h | h | h)
        · exact .inr (.inl h)
        · exact .inl h
        · exact .inr (.inr h)
      · rintro (h | h | h)
        · exact .inr (.inl h)
        · exact .inl h
        · exact .inr (.inr h)
def relax (s : List Int × LowD × Option Int) (e : Swap) : List Int × LowD × Option Int :=
  if at_ s.1 e.2.1 + e.2.2.2 < at_ s.1 e.2.2.1 then (setI s.1 e.2.2.1 (at_ s.1 e.2.1 + e.2.2.2), putA s.2.1 e.2.2.1 e, some e.2.2.1) else s
def backA (low : LowD) (v : Int) : Int := (getA low v).2.1
def iterA (low : LowD) : Nat → Int → Int
  | 0, v => v
  | k + 1, v => iterA low k (backA low v)
def ringGo (low : LowD) (start : Int) : Nat → Int → List Swap
  | 0, _ => []
  | k + 1, v => getA low v :: (if backA low v = start then [] else ringGo low start k (backA low v))
def ringB (low : LowD) (work : Int) (n : Int) : List Swap := ringGo low (iterA low n.toNat work) (n.toNat + 1) (iterA low n.toNat work)
def porB (n : Int) (E : List Swap) : Nat → List Int → LowD → Option Int → List Int × List Swap
  | 0, p, low, last => (p, ringB low (last.getD 0) n)
  | k + 1, p, low, _ => match E.foldl relax (p, low, none) with
    | (p', _, none) => (p', [])
    | (p', low', some v) => porB n E k p' low' (some v)
def pricesB (n : Int) (E : List Swap) : List Int × List Swap := porB n E n.toNat (List.replicate n.toNat 0) [] none
/-- the swaps are between the places -/
def EOk (n : Int) (E : List Swap) : Prop := ∀ e ∈ E, (0 ≤ e.2.1 ∧ e.2.1 < n) ∧ 0 ≤ e.2.2.1 ∧ e.2.2.1 < n
/-- a swap lowers a price -/
def Viol (p : List Int) (e : Swap) : Prop := at_ p e.2.1 + e.2.2.2 < at_ p e.2.2.1
/-- how it stands in round i, j swaps looked at -/
structure BF (n : Int) (E : List Swap) (i j : Nat) (p : List Int) (low : LowD) (rd tm : Int → Nat) (τ : Nat) : Prop where
  len : (p.length : Int) = n
  done : ∀ e ∈ E.take j, Viol p e → i ≤ rd e.2.1
  todo : ∀ e ∈ E, Viol p e → i ≤ rd e.2.1 + 1
  key : ∀ v, 1 ≤ rd v → v ∈ keysA low ∧ getA low v ∈ E ∧ (getA low v).2.2.1 = v ∧ rd v ≤ rd (backA low v) + 1
  pr : ∀ v, 1 ≤ rd v → at_ p (backA low v) + (getA low v).2.2.2 ≤ at_ p v ∧ (tm v < tm (backA low v) → at_ p (backA low v) + (getA low v).2.2.2 < at_ p v) ∧ (backA low v = v → (getA low v).2.2.2 < 0)
  tle : ∀ v, tm v ≤ τ
  tinj : ∀ u v, 1 ≤ rd u → 1 ≤ rd v → tm u = tm v → u = v
  t0 : ∀ v, rd v = 0 → tm v = 0
  rle : ∀ v, rd v ≤ i
theorem BF.start {n : Int} {E : List Swap} (hn : 0 ≤ n) : BF n E 1 0 (List.replicate n.toNat 0) [] (fun _ => 0) (fun _ => 0) 0 :=
  ⟨by rw [List.length_replicate]; omega, fun e h => by simp at h, fun _ _ _ => by omega, fun v h => by omega, fun v h => by omega, fun _ => Nat.le_refl _, fun u v h => by omega, fun _ _ => rfl, fun _ => Nat.zero_le _⟩
theorem BF.next {n : Int} {E : List Swap} {i : Nat} {p : List Int} {low : LowD} {rd tm : Int → Nat} {τ : Nat} (B : BF n E i E.length p low rd tm τ) : BF n E (i + 1) 0 p low rd tm τ :=
  ⟨B.len, fun e h => by simp at h, fun e he hv => by have := B.done e (by rw [List.take_length]; exact he) hv; omega, B.key, B.pr, B.tle, B.tinj, B.t0, fun v => Nat.le_succ_of_le (B.rle v)⟩
theorem BF.step {n : Int} {E : List Swap} {i j : Nat} {p : List Int} {low : LowD} {rd tm : Int → Nat} {τ : Nat} {last : Option Int} {e : Swap} (ok : EOk n E) (hi : 1 ≤ i) (B : BF n E i j p low rd tm τ) (he : E[j]? = some e) (hl : ∀ v, last = some v → rd v = i) :
    ∃ rd' tm' τ', BF n E i (j + 1) (relax (p, low, last) e).1 (relax (p, low, last) e).2.1 rd' tm' τ' ∧ ∀ v, (relax (p, low, last) e).2.2 = some v → rd' v = i := by
  have hE : e ∈ E := List.mem_of_getElem? he
  obtain ⟨⟨u0, u1⟩, g0, g1⟩ := ok e hE
  have hlen := B.len
  by_cases hv : Viol p e
  · have hr : relax (p, low, last) e = (setI p e.2.2.1 (at_ p e.2.1 + e.2.2.2), putA low e.2.2.1 e, some e.2.2.1) := by
      unfold relax
      try dsimp only
      rw [if_pos (show at_ p e.2.1 + e.2.2.2 < at_ p e.2.2.1 from hv)]
    have hv' : at_ p e.2.1 + e.2.2.2 < at_ p e.2.2.1 := hv
    rw [hr]
    -- the new prices
    have hat : ∀ x : Int, 0 ≤ x → at_ (setI p e.2.2.1 (at_ p e.2.1 + e.2.2.2)) x = if x = e.2.2.1 then at_ p e.2.1 + e.2.2.2 else at_ p x := fun x hx => at_setI ⟨g0, by omega⟩ hx
    generalize hg : e.2.2.1 = g at *
    generalize hu : e.2.1 = u at *
    generalize hw : e.2.2.2 = w at *
    refine ⟨fun x => if x = g then i else rd x, fun x => if x = g then τ + 1 else tm x, τ + 1, ?_, fun v hvv => ?_⟩
    · have hviol : ∀ e' ∈ E, e'.2.1 ≠ g → Viol (setI p g (at_ p u + w)) e' → Viol p e' := fun e' he' hne hx => by
        obtain ⟨⟨a0, a1⟩, b0, b1⟩ := ok e' he'
        unfold Viol at hx ⊢
        rw [hat _ a0, hat _ b0, if_neg hne] at hx
        split at hx
        · rename_i h
          rw [h]
          omega
        · exact hx
      have hbk : ∀ v, v ≠ g → backA (putA low g e) v = backA low v ∧ getA (putA low g e) v = getA low v := fun v hv => by
        unfold backA
        rw [getA_put, if_neg hv]
        exact ⟨rfl, rfl⟩
      have hbg : backA (putA low g e) g = u ∧ getA (putA low g e) g = e := by
        unfold backA
        rw [getA_put, if_pos rfl]
        exact ⟨hu, rfl⟩
      have hru : i ≤ rd u + 1 := by
        have := B.todo e hE (by unfold Viol; rw [hg, hu, hw]; exact hv')
        rw [hu] at this
        exact this
      refine ⟨by rw [setI_len]; exact hlen, fun e' he' hx => ?_, fun e' he' hx => ?_, fun v h1 => ?_, fun v h1 => ?_, fun v => ?_, fun a b ha hb hab => ?_, fun v h0 => ?_, fun v => ?_⟩
      · try dsimp only
        by_cases hne : e'.2.1 = g
        · rw [if_pos hne]
          exact Nat.le_refl _
        · rw [if_neg hne]
          rw [take_more he] at he'
          rcases List.mem_append.mp he' with he' | he'
          · exact B.done e' he' (hviol e' (List.mem_of_mem_take he') hne hx)
          · rw [List.mem_singleton.mp he'] at hx hne
            unfold Viol at hx
            rw [hg, hu, hw] at hx
            rw [hu] at hne
            rw [hat _ u0, hat _ g0, if_neg hne, if_pos rfl] at hx
            omega
      · try dsimp only
        by_cases hne : e'.2.1 = g
        · rw [if_pos hne]
          omega
        · rw [if_neg hne]
          exact B.todo e' he' (hviol e' he' hne hx)
      · try dsimp only at h1 ⊢
        by_cases hvg : v = g
        · subst hvg
          rw [hbg.1, hbg.2, if_pos rfl]
          refine ⟨keysA_put.mpr (.inl rfl), hE, hg, ?_⟩
          split <;> omega
        · rw [if_neg hvg] at h1
          rw [(hbk v hvg).1, (hbk v hvg).2, if_neg hvg]
          obtain ⟨k1, k2, k3, k4⟩ := B.key v h1
          refine ⟨keysA_put.mpr (.inr k1), k2, k3, ?_⟩
          have := B.rle v
          split
          · omega
          · exact k4
      · try dsimp only at h1 ⊢
        by_cases hvg : v = g
        · subst hvg
          rw [hbg.1, hbg.2, hw, hat _ u0, hat _ g0, if_pos rfl, if_pos rfl]
          by_cases huv : u = v
          · rw [if_pos huv, if_pos huv]
            subst huv
            refine ⟨by omega, fun h => by omega, fun _ => by omega⟩
          · rw [if_neg huv, if_neg huv]
            have := B.tle u
            exact ⟨Int.le_refl _, fun h => by omega, fun h => absurd h huv⟩
        · rw [if_neg hvg] at h1
          rw [(hbk v hvg).1, (hbk v hvg).2]
          obtain ⟨p1, p2, p3⟩ := B.pr v h1
          obtain ⟨k1, k2, k3, k4⟩ := B.key v h1
          obtain ⟨⟨a0, a1⟩, b0, b1⟩ := ok _ k2
          have hv0 : 0 ≤ v := by rw [← k3]; exact b0
          have hb0 : 0 ≤ backA low v := a0
          rw [hat _ hb0, hat _ hv0, if_neg hvg, if_neg hvg]
          by_cases hbv : backA low v = g
          · rw [if_pos hbv, if_pos hbv]
            rw [hbv] at p1
            exact ⟨by omega, fun _ => by omega, p3⟩
          · rw [if_neg hbv, if_neg hbv]
            exact ⟨p1, p2, p3⟩
      · try dsimp only
        have := B.tle v
        split <;> omega
      · try dsimp only at ha hb hab
        have h1 := B.tle a
        have h2 := B.tle b
        by_cases hag : a = g
        · by_cases hbg' : b = g
          · rw [hag, hbg']
          · rw [if_pos hag, if_neg hbg'] at hab
            omega
        · by_cases hbg' : b = g
          · rw [if_neg hag, if_pos hbg'] at hab
            omega
          · rw [if_neg hag, if_neg hbg'] at hab
            rw [if_neg hag] at ha
            rw [if_neg hbg'] at hb
            exact B.tinj a b ha hb hab
      · try dsimp only at h0 ⊢
        by_cases hvg : v = g
        · rw [if_pos hvg] at h0
          omega
        · rw [if_neg hvg] at h0 ⊢
          exact B.t0 v h0
      · try dsimp only
        have := B.rle v
        split <;> omega
    · cases hvv
      try dsimp only
      rw [if_pos rfl]
  · have hr : relax (p, low, last) e = (p, low, last) := by
      unfold relax
      try dsimp only
      rw [if_neg (show ¬ at_ p e.2.1 + e.2.2.2 < at_ p e.2.2.1 from hv)]
    rw [hr]
    refine ⟨rd, tm, τ, ⟨B.len, fun e' he' hx => ?_, B.todo, B.key, B.pr, B.tle, B.tinj, B.t0, B.rle⟩, hl⟩
    rw [take_more he] at he'
    rcases List.mem_append.mp he' with he' | he'
    · exact B.done e' he' hx
    · rw [List.mem_singleton.mp he'] at hx
      exact absurd hx hv
/-- a round -/
theorem BF.round {n : Int} {E : List Swap} {i : Nat} {p : List Int} {low : LowD} {rd tm : Int → Nat} {τ : Nat} (ok : EOk n E) (hi : 1 ≤ i) (B : BF n E i 0 p low rd tm τ) :
    ∃ rd' tm' τ', BF n E i E.length (E.foldl relax (p, low, none)).1 (E.foldl relax (p, low, none)).2.1 rd' tm' τ' ∧ ∀ v, (E.foldl relax (p, low, none)).2.2 = some v → rd' v = i := by
  have key : ∀ (k j : Nat) (p : List Int) (low : LowD) (last : Option Int) (rd tm : Int → Nat) (τ : Nat), E.length - j = k → j ≤ E.length → BF n E i j p low rd tm τ → (∀ v, last = some v → rd v = i) →
      ∃ rd' tm' τ', BF n E i E.length ((E.drop j).foldl relax (p, low, last)).1 ((E.drop j).foldl relax (p, low, last)).2.1 rd' tm' τ' ∧ ∀ v, ((E.drop j).foldl relax (p, low, last)).2.2 = some v → rd' v = i := by
    intro k
    induction k with
    | zero =>
      intro j p low last rd tm τ hk hj B hl
      have : j = E.length := by omega
      subst this
      rw [List.drop_length]
      exact ⟨rd, tm, τ, B, hl⟩
    | succ k ih =>
      intro j p low last rd tm τ hk hj B hl
      have hlt : j < E.length := by omega
      rw [List.drop_eq_getElem_cons hlt, List.foldl_cons]
      obtain ⟨rd', tm', τ', B', hl'⟩ := B.step ok hi (List.getElem?_eq_getElem hlt) hl
      exact ih (j + 1) _ _ _ rd' tm' τ' (by omega) hlt B' hl'
  exact key E.length 0 p low none rd tm τ (by omega) (Nat.zero_le _) B (fun v h => by cases h)
/-- where a round lowers nothing -/
theorem round_none : ∀ {E : List Swap} {p : List Int} {low : LowD}, (E.foldl relax (p, low, none)).2.2 = none → (E.foldl relax (p, low, none)) = (p, low, none) ∧ ∀ e ∈ E, ¬ Viol p e
  | [], p, low, _ => ⟨rfl, fun e h => nomatch h⟩
  | e :: E, p, low, h => by
    have hs : ∀ {E : List Swap} {s : List Int × LowD × Option Int}, s.2.2 ≠ none → (E.foldl relax s).2.2 ≠ none := by
      intro E
      induction E with
      | nil => intro s h; exact h
      | cons e E ih =>
        intro s h
        rw [List.foldl_cons]
        refine ih ?_
        unfold relax
        split
        · simp
        · exact h
    rw [List.foldl_cons] at h ⊢
    by_cases hv : Viol p e
    · exfalso
      refine hs ?_ h
      unfold relax
      try dsimp only
      rw [if_pos (show at_ p e.2.1 + e.2.2.2 < at_ p e.2.2.1 from hv)]
      simp
    · have hr : relax (p, low, none) e = (p, low, none) := by
        unfold relax
        try dsimp only
        rw [if_neg (show ¬ at_ p e.2.1 + e.2.2.2 < at_ p e.2.2.1 from hv)]
      rw [hr] at h ⊢
      obtain ⟨h1, h2⟩ := round_none h
      refine ⟨h1, fun e' he' => ?_⟩
      rcases List.mem_cons.mp he' with rfl | he'
      · exact hv
      · exact h2 e' he'
theorem iterA_add (low : LowD) : ∀ (a b : Nat) (v : Int), iterA low (a + b) v = iterA low b (iterA low a v)
  | 0, b, v => by rw [Nat.zero_add]; rfl
  | a + 1, b, v => by rw [show a + 1 + b = (a + b) + 1 by omega]; exact iterA_add low a b (backA low v)
/-- the ring closes -/
structure Closes (low : LowD) (start : Int) (m : Nat) : Prop where
  pos : 1 ≤ m
  back : iterA low m start = start
  first : ∀ k, 1 ≤ k → k < m → iterA low k start ≠ start
theorem ringGo_len {low : LowD} {start : Int} {m : Nat} (c : Closes low start m) : ∀ {k fuel : Nat}, k < m → m ≤ k + fuel → ringGo low start fuel (iterA low k start) = (List.range (m - k)).map fun i => getA low (iterA low (k + i) start)
  | k, 0, h1, h2 => by omega
  | k, fuel + 1, h1, h2 => by
    unfold ringGo
    have eb : backA low (iterA low k start) = iterA low (k + 1) start := by
      rw [iterA_add low k 1 start]
      rfl
    have er : List.range (m - k) = 0 :: (List.range (m - (k + 1))).map Nat.succ := by
      rw [show m - k = (m - (k + 1)) + 1 by omega, List.range_succ_eq_map]
    rw [eb, er, List.map_cons, List.map_map, Nat.add_zero]
    congr 1
    by_cases hk : k + 1 = m
    · rw [if_pos (by rw [hk]; exact c.back), show m - (k + 1) = 0 by omega]
      rfl
    · rw [if_neg (c.first (k + 1) (by omega) (by omega)), ringGo_len c (k := k + 1) (by omega) (by omega)]
      refine List.map_congr_left fun i _ => ?_
      show getA low (iterA low (k + 1 + i) start) = getA low (iterA low (k + (i + 1)) start)
      rw [show k + 1 + i = k + (i + 1) by omega]
end Ew
namespace Ew
open PySem PySem.Spec PyProof.Rows L2
theorem iterA_succ (low : LowD) (k : Nat) (v : Int) : iterA low (k + 1) v = backA low (iterA low k v) := by
  rw [iterA_add low k 1 v]
  rfl
theorem not_nodup {f : Nat → Int} : ∀ {n : Nat}, (∀ k, k ≤ n → 0 ≤ f k ∧ f k < (n : Int)) → ∃ i j, i < j ∧ j ≤ n ∧ f i = f j := by
  intro n h
  by_cases hc : ∃ i j, i < j ∧ j ≤ n ∧ f i = f j
  · exact hc
  · exfalso
    have nd : ((List.range (n + 1)).map f).Nodup := by
      show List.Pairwise (· ≠ ·) _
      rw [List.pairwise_map]
      refine List.Pairwise.imp_of_mem (R := fun a b => a < b) (fun {a b} ha hb hab e => hc ⟨a, b, hab, by have := List.mem_range.mp hb; omega, e⟩) List.pairwise_lt_range
    have := nd_len (n := n) nd fun g hg => by
      obtain ⟨k, hk, rfl⟩ := List.mem_map.mp hg
      exact h k (by have := List.mem_range.mp hk; omega)
    rw [List.length_map, List.length_range] at this
    omega
theorem least_one {P : Nat → Prop} : ∀ {m : Nat}, 1 ≤ m → P m → ∃ k, 1 ≤ k ∧ k ≤ m ∧ P k ∧ ∀ j, 1 ≤ j → j < k → ¬ P j := by
  intro m
  induction m using Nat.strongRecOn with
  | _ m ih =>
    intro h1 hp
    by_cases hc : ∃ j, 1 ≤ j ∧ j < m ∧ P j
    · obtain ⟨j, a, b, c⟩ := hc
      obtain ⟨k, k1, k2, k3, k4⟩ := ih j b a c
      exact ⟨k, k1, by omega, k3, k4⟩
    · exact ⟨m, h1, Nat.le_refl _, hp, fun j a b c => hc ⟨j, a, b, c⟩⟩
theorem max_at (f : Nat → Nat) : ∀ {m : Nat}, 1 ≤ m → ∃ k, k < m ∧ ∀ j, j < m → f j ≤ f k
  | 1, _ => ⟨0, by omega, fun j hj => by rw [show j = 0 by omega]; exact Nat.le_refl _⟩
  | m + 2, _ => by
    obtain ⟨k, hk, h⟩ := max_at f (m := m + 1) (by omega)
    by_cases hc : f k ≤ f (m + 1)
    · refine ⟨m + 1, by omega, fun j hj => ?_⟩
      by_cases hj2 : j = m + 1
      · rw [hj2]; exact Nat.le_refl _
      · exact Nat.le_trans (h j (by omega)) hc
    · refine ⟨k, by omega, fun j hj => ?_⟩
      by_cases hj2 : j = m + 1
      · rw [hj2]; omega
      · exact h j (by omega)
theorem sum_shift (g : Nat → Int) : ∀ m : Nat, ((List.range m).map fun k => g (k + 1)).sum + g 0 = ((List.range m).map g).sum + g m
  | 0 => by simp
  | m + 1 => by
    have ih := sum_shift g m
    rw [List.range_succ, List.map_append, List.map_append, List.sum_append, List.sum_append]
    simp only [List.map_cons, List.map_nil, List.sum_cons, List.sum_nil]
    omega
theorem sum_add2 {α : Type} (f g : α → Int) : ∀ l : List α, (l.map fun x => f x + g x).sum = (l.map f).sum + (l.map g).sum
  | [] => rfl
  | x :: l => by
    rw [List.map_cons, List.map_cons, List.map_cons, List.sum_cons, List.sum_cons, List.sum_cons, sum_add2 f g l]
    omega
/-- a ring of swaps that gains -/
structure Ring (E r : List Swap) (m : Nat) (c : Nat → Int) : Prop where
  pos : 1 ≤ m
  len : r.length = m
  ne : ∀ k e, r[k]? = some e → e ∈ E ∧ e.2.2.1 = c k ∧ e.2.1 = c (k + 1)
  close : c m = c 0
  inj : ∀ a b, a < m → b < m → c a = c b → a = b
  neg : (r.map fun e => e.2.2.2).sum < 0
theorem ring_right {n : Int} {E : List Swap} {p : List Int} {low : LowD} {rd tm : Int → Nat} {τ : Nat} {v0 : Int} (ok : EOk n E) (hn : 1 ≤ n) (B : BF n E n.toNat E.length p low rd tm τ) (hv : rd v0 = n.toNat) :
    (∀ k, k < n.toNat → iterA low k v0 ∈ keysA low) ∧ (∀ k, iterA low k (iterA low n.toNat v0) ∈ keysA low) ∧ ∃ m c, m ≤ n.toNat ∧ Closes low (iterA low n.toNat v0) m ∧ Ring E (ringB low v0 n) m c := by
  have h1 : ∀ k, k ≤ n.toNat → n.toNat ≤ rd (iterA low k v0) + k := fun k => by
    induction k with
    | zero => intro _; show n.toNat ≤ rd v0 + 0; omega
    | succ k ih =>
      intro hk
      have := ih (by omega)
      rw [iterA_succ]
      have := (B.key (iterA low k v0) (by omega)).2.2.2
      omega
  have hpos : ∀ k, k < n.toNat → 1 ≤ rd (iterA low k v0) := fun k hk => by have := h1 k (by omega); omega
  have hin : ∀ v, 1 ≤ rd v → 0 ≤ v ∧ v < n := fun v h => by
    obtain ⟨_, k2, k3, _⟩ := B.key v h
    have := (ok _ k2).2
    omega
  have hrg : ∀ k, k ≤ n.toNat → 0 ≤ iterA low k v0 ∧ iterA low k v0 < (n.toNat : Int) := fun k hk => by
    rw [Int.toNat_of_nonneg (by omega)]
    rcases Nat.lt_or_ge k n.toNat with h | h
    · exact hin _ (hpos k h)
    · have e : k = (n.toNat - 1) + 1 := by omega
      rw [e, iterA_succ]
      obtain ⟨_, k2, _, _⟩ := B.key _ (hpos (n.toNat - 1) (by omega))
      exact (ok _ k2).1
  obtain ⟨i, j, hij, hj, hfe⟩ := not_nodup hrg
  have hper : ∀ t, ∃ l, i ≤ l ∧ l < j ∧ iterA low (i + t) v0 = iterA low l v0 := fun t => by
    induction t with
    | zero => exact ⟨i, Nat.le_refl _, hij, rfl⟩
    | succ t ih =>
      obtain ⟨l, l1, l2, l3⟩ := ih
      by_cases hl : l + 1 < j
      · exact ⟨l + 1, by omega, hl, by rw [show i + (t + 1) = (i + t) + 1 by omega, iterA_succ, iterA_succ, l3]⟩
      · refine ⟨i, Nat.le_refl _, hij, ?_⟩
        rw [show i + (t + 1) = (i + t) + 1 by omega, iterA_succ, l3, ← iterA_succ, show l + 1 = j by omega, hfe]
  have hcyc : ∀ k, 1 ≤ rd (iterA low k (iterA low n.toNat v0)) := fun k => by
    rw [← iterA_add]
    obtain ⟨l, l1, l2, l3⟩ := hper (n.toNat + k - i)
    rw [show i + (n.toNat + k - i) = n.toNat + k by omega] at l3
    rw [l3]
    exact hpos l (by omega)
  refine ⟨fun k hk => (B.key _ (hpos k hk)).1, fun k => (B.key _ (hcyc k)).1, ?_⟩
  have hback : iterA low (j - i) (iterA low n.toNat v0) = iterA low n.toNat v0 := by
    rw [← iterA_add, show n.toNat + (j - i) = j + (n.toNat - i) by omega, iterA_add low j (n.toNat - i), ← hfe, ← iterA_add, show i + (n.toNat - i) = n.toNat by omega]
  generalize hs : iterA low n.toNat v0 = start at *
  obtain ⟨m, m1, m2, m3, m4⟩ := least_one (P := fun k => iterA low k start = start) (m := j - i) (by omega) hback
  have cl : Closes low start m := ⟨m1, m3, m4⟩
  have hlist : ringB low v0 n = (List.range m).map fun k => getA low (iterA low k start) := by
    unfold ringB
    rw [hs]
    have := ringGo_len cl (k := 0) (fuel := n.toNat + 1) (by omega) (by omega)
    rw [Nat.sub_zero] at this
    rw [show iterA low 0 start = start from rfl] at this
    rw [this]
    exact List.map_congr_left fun i _ => by rw [Nat.zero_add]
  refine ⟨m, fun k => iterA low k start, by omega, cl, m1, by rw [hlist, List.length_map, List.length_range], fun k e he => ?_, m3, ?_, ?_⟩
  · rw [hlist, List.getElem?_map] at he
    have hk : k < m := by
      by_cases h : k < m
      · exact h
      · rw [List.getElem?_eq_none (by rw [List.length_range]; omega)] at he
        cases he
    rw [List.getElem?_range hk] at he
    cases he
    obtain ⟨_, k2, k3, _⟩ := B.key _ (hcyc k)
    refine ⟨k2, k3, ?_⟩
    show (getA low (iterA low k start)).2.1 = iterA low (k + 1) start
    rw [iterA_succ]
    rfl
  · have aux : ∀ a b, a < b → b < m → iterA low a start ≠ iterA low b start := fun a b hab hb e => by
      have e1 : iterA low (a + (m - b)) start = start := by
        rw [iterA_add, e, ← iterA_add, show b + (m - b) = m by omega]
        exact m3
      exact m4 (a + (m - b)) (by omega) (by omega) e1
    intro a b ha hb e
    rcases Nat.lt_trichotomy a b with h | h | h
    · exact absurd e (aux a b h hb)
    · exact h
    · exact absurd e.symm (aux b a h ha)
  · rw [hlist, List.map_map]
    show ((List.range m).map fun k => (getA low (iterA low k start)).2.2.2).sum < 0
    have hle : ∀ k ∈ List.range m, at_ p (iterA low (k + 1) start) + (getA low (iterA low k start)).2.2.2 ≤ at_ p (iterA low k start) := fun k _ => by
      rw [iterA_succ]
      exact (B.pr _ (hcyc k)).1
    obtain ⟨K, hK, hmax⟩ := max_at (fun k => tm (iterA low k start)) m1
    -- the one ahead of the last lowered
    obtain ⟨y, hy, hyx⟩ : ∃ y, y < m ∧ iterA low (y + 1) start = iterA low K start := by
      cases K with
      | zero => exact ⟨m - 1, by omega, by rw [show m - 1 + 1 = m by omega, m3]; rfl⟩
      | succ K => exact ⟨K, by omega, rfl⟩
    have hlt : at_ p (iterA low (y + 1) start) + (getA low (iterA low y start)).2.2.2 < at_ p (iterA low y start) := by
      have pr := B.pr _ (hcyc y)
      have hb : backA low (iterA low y start) = iterA low K start := by rw [← iterA_succ]; exact hyx
      rw [hyx]
      rw [hb] at pr
      have hm := hmax y hy
      rcases Nat.lt_or_ge (tm (iterA low y start)) (tm (iterA low K start)) with h | h
      · exact pr.2.1 h
      · have e := B.tinj _ _ (hcyc y) (hcyc K) (by omega)
        have := pr.2.2 e.symm
        rw [e] at *
        omega
    have hsum := sum_lt (l := List.range m) (f := fun k => at_ p (iterA low (k + 1) start) + (getA low (iterA low k start)).2.2.2) (g := fun k => at_ p (iterA low k start)) hle (List.mem_range.mpr hy) hlt
    rw [sum_add2] at hsum
    have hsh := sum_shift (fun k => at_ p (iterA low k start)) m
    have e0 : at_ p (iterA low m start) = at_ p (iterA low 0 start) := by rw [m3]; rfl
    try dsimp only at hsh
    omega
/-- what prices_or_ring tells -/
theorem por_right {n : Int} {E : List Swap} (ok : EOk n E) (hn : 1 ≤ n) : ((pricesB n E).2 = [] ∧ ((pricesB n E).1.length : Int) = n ∧ ∀ e ∈ E, ¬ Viol (pricesB n E).1 e) ∨ ∃ m c, m ≤ n.toNat ∧ Ring E (pricesB n E).2 m c := by
  have key : ∀ (k i : Nat) (p : List Int) (low : LowD) (last : Option Int) (rd tm : Int → Nat) (τ : Nat), i + k = n.toNat → (BF n E (i + 1) 0 p low rd tm τ) → (k = 0 → ∃ v, last = some v ∧ rd v = n.toNat ∧ BF n E n.toNat E.length p low rd tm τ) →
      ((porB n E k p low last).2 = [] ∧ ((porB n E k p low last).1.length : Int) = n ∧ ∀ e ∈ E, ¬ Viol (porB n E k p low last).1 e) ∨ ∃ m c, m ≤ n.toNat ∧ Ring E (porB n E k p low last).2 m c := by
    intro k
    induction k with
    | zero =>
      intro i p low last rd tm τ hi B h0
      obtain ⟨v, e, hv, B0⟩ := h0 rfl
      obtain ⟨_, _, m, c, hm, _, hr⟩ := ring_right ok hn B0 hv
      rw [e]
      exact .inr ⟨m, c, hm, hr⟩
    | succ k ih =>
      intro i p low last rd tm τ hi B _
      unfold porB
      obtain ⟨rd', tm', τ', B', hl⟩ := B.round ok (by omega)
      have hnone := round_none (E := E) (p := p) (low := low)
      cases hE : E.foldl relax (p, low, none) with
      | mk p' rest =>
        obtain ⟨low', l'⟩ := rest
        rw [hE] at B' hl hnone
        cases l' with
        | none =>
          obtain ⟨a, b⟩ := hnone rfl
          cases a
          exact .inl ⟨rfl, B.len, b⟩
        | some v =>
          exact ih (i + 1) p' low' (some v) rd' tm' τ' (by omega) B'.next fun hk => by
            have e : i + 1 = n.toNat := by omega
            rw [e] at B'
            exact ⟨v, rfl, by rw [hl v rfl, e], B'⟩
  have := key n.toNat 0 (List.replicate n.toNat 0) [] none (fun _ => 0) (fun _ => 0) 0 (by omega) (BF.start (by omega)) (fun h => by omega)
  exact this
end Ew
namespace Ew
open PySem PySem.Spec PyProof.Rows L2
/-! ### rows behind a ring -/
def realS (sp : Int) (l : List Int) : List Int := l.filter fun z => !decide (z = sp)
def swStep (f : List (List Int)) (e : Swap) : List (List Int) := setI f e.1 (((at_ f e.1).filter fun z => !decide (z = e.2.2.1)) ++ [e.2.1])
def swFold (f : List (List Int)) (L : List Swap) : List (List Int) := L.foldl swStep f
def swappedB (f : List (List Int)) (L : List Swap) (sp : Int) : List (List Int) := (swFold f L).map fun row => srt (realS sp row)
def keptR (sp : Int) (W : Int → Int → Int) (f : List (List Int)) : Int := ((iota (f.length : Nat)).map fun r => ((realS sp (at_ f r)).map (W r)).sum).sum
theorem mem_real {sp z : Int} {l : List Int} : z ∈ realS sp l ↔ z ∈ l ∧ z ≠ sp := by
  unfold realS
  rw [List.mem_filter]
  simp
theorem real_step {sp g t : Int} (l : List Int) : realS sp ((l.filter fun z => !decide (z = g)) ++ [t]) = ((realS sp l).filter fun z => !decide (z = g)) ++ (if t = sp then [] else [t]) := by
  unfold realS
  rw [List.filter_append, List.filter_filter, List.filter_filter]
  congr 1
  · refine List.filter_congr fun z _ => ?_
    rw [Bool.and_comm]
  · by_cases h : t = sp
    · rw [if_pos h, List.filter_cons_of_neg (by simp [h])]
      rfl
    · rw [if_neg h, List.filter_cons_of_pos (by simp [h])]
      rfl
theorem erase_len {g : Int} : ∀ {l : List Int}, l.Nodup → ((l.filter fun z => !decide (z = g)).length : Int) = (l.length : Int) - (if g ∈ l then 1 else 0)
  | [], _ => by simp
  | x :: l, nd => by
    have nd' := List.nodup_cons.mp nd
    have ih := erase_len (g := g) nd'.2
    by_cases h : x = g
    · subst h
      rw [List.filter_cons_of_neg (by simp), ih, if_neg nd'.1, if_pos (by simp), List.length_cons]
      omega
    · rw [List.filter_cons_of_pos (by simp [h]), List.length_cons, List.length_cons]
      by_cases hg : g ∈ l
      · rw [if_pos hg] at ih
        rw [if_pos (by simp [hg])]
        omega
      · rw [if_neg hg] at ih
        rw [if_neg (by simp [hg]; exact fun z => h z.symm)]
        omega
theorem erase_sum {g : Int} {W : Int → Int} : ∀ {l : List Int}, l.Nodup → ((l.filter fun z => !decide (z = g)).map W).sum = (l.map W).sum - (if g ∈ l then W g else 0)
  | [], _ => by simp
  | x :: l, nd => by
    have nd' := List.nodup_cons.mp nd
    have ih := erase_sum (g := g) (W := W) nd'.2
    by_cases h : x = g
    · subst h
      rw [List.filter_cons_of_neg (by simp), ih, if_neg nd'.1, if_pos (by simp), List.map_cons, List.sum_cons]
      omega
    · rw [List.filter_cons_of_pos (by simp [h]), List.map_cons, List.map_cons, List.sum_cons, List.sum_cons]
      by_cases hg : g ∈ l
      · rw [if_pos hg] at ih
        rw [if_pos (by simp [hg])]
        omega
      · rw [if_neg hg] at ih
        rw [if_neg (by simp [hg]; exact fun z => h z.symm)]
        omega
theorem sum_change {h h' : Int → Int} {i : Int} : ∀ {l : List Int}, l.Nodup → i ∈ l → (∀ x ∈ l, x ≠ i → h' x = h x) → (l.map h').sum = (l.map h).sum - h i + h' i
  | [], _, m, _ => nomatch m
  | x :: l, nd, m, e => by
    have nd' := List.nodup_cons.mp nd
    rw [List.map_cons, List.map_cons, List.sum_cons, List.sum_cons]
    by_cases hx : x = i
    · subst hx
      have : l.map h' = l.map h := List.map_congr_left fun y hy => e y (by simp [hy]) fun z => nd'.1 (z ▸ hy)
      rw [this]
      omega
    · have hm : i ∈ l := by
        rcases List.mem_cons.mp m with z | z
        · exact absurd z.symm hx
        · exact z
      rw [sum_change nd'.2 hm fun y hy => e y (by simp [hy]), e x (by simp) hx]
      omega
structure SwSt (sp : Int) (f : List (List Int)) (L : List Swap) : Prop where
  gd : (L.map fun e => e.2.2.1).Nodup
  td : (L.map fun e => e.2.1).Nodup
  rg : ∀ e ∈ L, 0 ≤ e.1 ∧ e.1 < (f.length : Int)
  gin : ∀ e ∈ L, e.2.2.1 ∈ at_ f e.1 ∨ e.2.2.1 = sp
  tout : ∀ e ∈ L, e.2.1 ∉ at_ f e.1 ∨ e.2.1 = sp
  nd : ∀ r : Int, 0 ≤ r ∧ r < (f.length : Int) → (realS sp (at_ f r)).Nodup
theorem sw_len (f : List (List Int)) (e : Swap) : (swStep f e).length = f.length := setI_len _ _ _
theorem sw_at {f : List (List Int)} {e : Swap} (h : 0 ≤ e.1 ∧ e.1 < (f.length : Int)) {r : Int} (hr : 0 ≤ r) : at_ (swStep f e) r = if r = e.1 then ((at_ f e.1).filter fun z => !decide (z = e.2.2.1)) ++ [e.2.1] else at_ f r := at_setI h hr
section
variable {sp : Int} {f : List (List Int)} {e : Swap} {L : List Swap}
theorem SwSt.step (S : SwSt sp f (e :: L)) : SwSt sp (swStep f e) L := by
  have he := S.rg e (by simp)
  have g1 := List.nodup_cons.mp (by have := S.gd; rw [List.map_cons] at this; exact this)
  have t1 := List.nodup_cons.mp (by have := S.td; rw [List.map_cons] at this; exact this)
  refine ⟨g1.2, t1.2, fun e' h => by rw [sw_len]; exact S.rg e' (by simp [h]), fun e' h => ?_, fun e' h => ?_, fun r hr => ?_⟩
  · have hr' := S.rg e' (by simp [h])
    rw [sw_at he hr'.1]
    rcases S.gin e' (by simp [h]) with hg | hg
    · refine .inl ?_
      split
      · rename_i er
        rw [er] at hg
        have hne : e'.2.2.1 ≠ e.2.2.1 := fun z => g1.1 (by rw [← z]; exact List.mem_map_of_mem (f := fun e : Swap => e.2.2.1) h)
        exact List.mem_append.mpr (.inl (List.mem_filter.mpr ⟨hg, by simp [hne]⟩))
      · exact hg
    · exact .inr hg
  · have hr' := S.rg e' (by simp [h])
    rw [sw_at he hr'.1]
    by_cases hs : e'.2.1 = sp
    · exact .inr hs
    · refine .inl ?_
      have ht := (S.tout e' (by simp [h])).resolve_right hs
      split
      · rename_i er
        rw [er] at ht
        have hne : e'.2.1 ≠ e.2.1 := fun z => t1.1 (by rw [← z]; exact List.mem_map_of_mem (f := fun e : Swap => e.2.1) h)
        intro hm
        rcases List.mem_append.mp hm with hm | hm
        · exact ht (List.mem_filter.mp hm).1
        · exact hne (List.mem_singleton.mp hm)
      · exact ht
  · rw [sw_len] at hr
    rw [sw_at he hr.1]
    split
    · rw [real_step]
      have nd := (S.nd e.1 he).filter fun z => !decide (z = e.2.2.1)
      split
      · rw [List.append_nil]
        exact nd
      · rename_i hs
        refine List.nodup_append.mpr ⟨nd, by simp, fun a ha b hb hab => ?_⟩
        rw [List.mem_singleton.mp hb] at hab
        rw [hab] at ha
        exact ((S.tout e (by simp)).resolve_right hs) (mem_real.mp (List.mem_filter.mp ha).1).1
    · exact S.nd r hr
end
section
variable {sp : Int}
theorem fold_len : ∀ (L : List Swap) (f : List (List Int)), (swFold f L).length = f.length
  | [], f => rfl
  | e :: L, f => (fold_len L (swStep f e)).trans (sw_len f e)
theorem fold_mem : ∀ {L : List Swap} {f : List (List Int)}, SwSt sp f L → ∀ {r z : Int}, 0 ≤ r → z ∈ at_ (swFold f L) r → z ∈ at_ f r ∨ ∃ e ∈ L, e.1 = r ∧ e.2.1 = z
  | [], f, _, r, z, _, h => .inl h
  | e :: L, f, S, r, z, hr, h => by
    rcases fold_mem S.step hr h with h | ⟨e', h1, h2⟩
    · rw [sw_at (S.rg e (by simp)) hr] at h
      split at h
      · rename_i er
        rcases List.mem_append.mp h with h | h
        · rw [er]
          exact .inl (List.mem_filter.mp h).1
        · exact .inr ⟨e, by simp, er.symm, (List.mem_singleton.mp h).symm⟩
      · exact .inl h
    · exact .inr ⟨e', by simp [h1], h2⟩
theorem fold_nd : ∀ {L : List Swap} {f : List (List Int)}, SwSt sp f L → ∀ r : Int, 0 ≤ r ∧ r < (f.length : Int) → (realS sp (at_ (swFold f L) r)).Nodup
  | [], f, S, r, hr => S.nd r hr
  | e :: L, f, S, r, hr => fold_nd S.step r (by rw [sw_len]; exact hr)
theorem fold_out : ∀ {L : List Swap} {f : List (List Int)}, SwSt sp f L → ∀ {r : Int}, 0 ≤ r → (∀ e ∈ L, e.1 ≠ r) → at_ (swFold f L) r = at_ f r
  | [], f, _, r, _, _ => rfl
  | e :: L, f, S, r, hr, h => by
    show at_ (swFold (swStep f e) L) r = _
    rw [fold_out S.step hr fun e' h' => h e' (by simp [h']), sw_at (S.rg e (by simp)) hr, if_neg fun z => h e (by simp) z.symm]
theorem filt_cons {α : Type} (p : α → Bool) (e : α) (L : List α) : (((e :: L).filter p).length : Int) = ((L.filter p).length : Nat) + (if p e = true then 1 else 0) := by
  rw [List.filter_cons]
  split
  · rw [List.length_cons]
    rfl
  · rw [Int.add_zero]
theorem fold_cnt {z : Int} (hz : z ≠ sp) : ∀ {L : List Swap} {f : List (List Int)}, SwSt sp f L → cntW (swFold f L) z + ((L.filter fun e => decide (e.2.2.1 = z)).length : Nat) = cntW f z + ((L.filter fun e => decide (e.2.1 = z)).length : Nat)
  | [], f, _ => rfl
  | e :: L, f, S => by
    have ih := fold_cnt hz S.step
    have he := S.rg e (by simp)
    have hg := at_get he
    have hs := cntW_set (w' := ((at_ f e.1).filter fun z => !decide (z = e.2.2.1)) ++ [e.2.1]) (x := z) hg
    have hs' : cntW (swStep f e) z = cntW f z - one_ (z ∈ at_ f e.1) + one_ (z ∈ ((at_ f e.1).filter fun z => !decide (z = e.2.2.1)) ++ [e.2.1]) := hs
    have hone : one_ (z ∈ ((at_ f e.1).filter fun z => !decide (z = e.2.2.1)) ++ [e.2.1]) = one_ (z ∈ at_ f e.1) - one_ (e.2.2.1 = z) + one_ (e.2.1 = z) := by
      unfold one_
      by_cases h1 : e.2.2.1 = z
      · have hin : z ∈ at_ f e.1 := by
          rcases S.gin e (by simp) with h | h
          · rw [h1] at h; exact h
          · exact absurd (h1.symm.trans h) hz
        rw [if_pos hin, if_pos h1]
        by_cases h2 : e.2.1 = z
        · rcases S.tout e (by simp) with h | h
          · rw [h2] at h; exact absurd hin h
          · exact absurd (h2.symm.trans h) hz
        · rw [if_neg h2, if_neg]
          · rfl
          · intro hm
            rcases List.mem_append.mp hm with hm | hm
            · have := (List.mem_filter.mp hm).2
              simp [h1] at this
            · exact h2 (List.mem_singleton.mp hm).symm
      · rw [if_neg h1]
        by_cases h2 : e.2.1 = z
        · have hout : z ∉ at_ f e.1 := by
            rcases S.tout e (by simp) with h | h
            · rw [h2] at h; exact h
            · exact absurd (h2.symm.trans h) hz
          rw [if_neg hout, if_pos h2, if_pos (by simp [h2])]
          rfl
        · rw [if_neg h2]
          have : z ∈ ((at_ f e.1).filter fun z => !decide (z = e.2.2.1)) ++ [e.2.1] ↔ z ∈ at_ f e.1 := by
            rw [List.mem_append, List.mem_filter, List.mem_singleton]
            constructor
            · rintro (h | h)
              · exact h.1
              · exact absurd h.symm h2
            · exact fun h => .inl ⟨h, by simp; exact fun q => h1 q.symm⟩
          by_cases h3 : z ∈ at_ f e.1
          · rw [if_pos h3, if_pos (this.mpr h3)]; rfl
          · rw [if_neg h3, if_neg fun q => h3 (this.mp q)]; rfl
    show cntW (swFold (swStep f e) L) z + _ = _
    have a1 : one_ (e.2.2.1 = z) = if decide (e.2.2.1 = z) = true then 1 else 0 := by unfold one_; simp
    have a2 : one_ (e.2.1 = z) = if decide (e.2.1 = z) = true then 1 else 0 := by unfold one_; simp
    have f1 := filt_cons (fun e : Swap => decide (e.2.2.1 = z)) e L
    have f2 := filt_cons (fun e : Swap => decide (e.2.1 = z)) e L
    rw [f1, f2, ← a1, ← a2]
    omega
theorem fold_size {r : Int} (hr : 0 ≤ r) : ∀ {L : List Swap} {f : List (List Int)}, SwSt sp f L → r < (f.length : Int) → ((realS sp (at_ (swFold f L) r)).length : Int) + ((L.filter fun e => decide (e.1 = r) && decide (e.2.1 = sp)).length : Nat) = ((realS sp (at_ f r)).length : Int) + ((L.filter fun e => decide (e.1 = r) && decide (e.2.2.1 = sp)).length : Nat)
  | [], f, _, _ => rfl
  | e :: L, f, S, hl => by
    have ih := fold_size hr S.step (by rw [sw_len]; exact hl)
    have he := S.rg e (by simp)
    show ((realS sp (at_ (swFold (swStep f e) L) r)).length : Int) + _ = _
    rw [sw_at he hr] at ih
    rw [List.filter_cons, List.filter_cons]
    by_cases h : e.1 = r
    · rw [if_pos h.symm, real_step, List.length_append] at ih
      have el := erase_len (g := e.2.2.1) (S.nd e.1 he)
      rw [h] at el ih
      have hgm : e.2.2.1 ∈ realS sp (at_ f r) ↔ ¬ e.2.2.1 = sp := by
        rw [mem_real]
        constructor
        · exact fun q => q.2
        · intro q
          have := (S.gin e (by simp)).resolve_right q
          rw [h] at this
          exact ⟨this, q⟩
      by_cases h1 : e.2.1 = sp <;> by_cases h2 : e.2.2.1 = sp
      · rw [if_pos h1] at ih
        rw [if_neg fun q => hgm.mp q h2] at el
        rw [if_pos (by simp [h, h1]), if_pos (by simp [h, h2])]
        simp only [List.length_cons, List.length_nil] at *
        omega
      · rw [if_pos h1] at ih
        rw [if_pos (hgm.mpr h2)] at el
        rw [if_pos (by simp [h, h1]), if_neg (by simp [h, h2])]
        simp only [List.length_cons, List.length_nil] at *
        omega
      · rw [if_neg h1] at ih
        rw [if_neg fun q => hgm.mp q h2] at el
        rw [if_neg (by simp [h, h1]), if_pos (by simp [h, h2])]
        simp only [List.length_cons, List.length_nil] at *
        omega
      · rw [if_neg h1] at ih
        rw [if_pos (hgm.mpr h2)] at el
        rw [if_neg (by simp [h, h1]), if_neg (by simp [h, h2])]
        simp only [List.length_cons, List.length_nil] at *
        omega
    · rw [if_neg fun q => h q.symm] at ih
      rw [if_neg (by simp [h]), if_neg (by simp [h])]
      exact ih
theorem fold_kept {W : Int → Int → Int} : ∀ {L : List Swap} {f : List (List Int)}, SwSt sp f L → (∀ e ∈ L, e.2.2.2 = W e.1 e.2.2.1 - W e.1 e.2.1) → (∀ r, W r sp = 0) → keptR sp W (swFold f L) + (L.map fun e => e.2.2.2).sum = keptR sp W f
  | [], f, _, _, _ => by simp [swFold]
  | e :: L, f, S, hw, h0 => by
    have ih := fold_kept S.step (fun e' h => hw e' (by simp [h])) h0
    have he := S.rg e (by simp)
    have hstep : keptR sp W (swStep f e) = keptR sp W f - W e.1 e.2.2.1 + W e.1 e.2.1 := by
      unfold keptR
      rw [sw_len]
      have hc := sum_change (h := fun r => ((realS sp (at_ f r)).map (W r)).sum) (h' := fun r => ((realS sp (at_ (swStep f e) r)).map (W r)).sum) (i := e.1) (l := iota (f.length : Nat)) (iota_nd _) (iota_mem.mpr he) fun x hx hne => by
        rw [sw_at he (iota_mem.mp hx).1, if_neg hne]
      rw [hc]
      rw [sw_at he he.1, if_pos rfl, real_step, List.map_append, List.sum_append, erase_sum (S.nd e.1 he)]
      have hgm : e.2.2.1 ∈ realS sp (at_ f e.1) ↔ ¬ e.2.2.1 = sp := by
        rw [mem_real]
        constructor
        · exact fun q => q.2
        · exact fun q => ⟨(S.gin e (by simp)).resolve_right q, q⟩
      have b1 : (if e.2.2.1 ∈ realS sp (at_ f e.1) then W e.1 e.2.2.1 else 0) = W e.1 e.2.2.1 := by
        by_cases h2 : e.2.2.1 = sp
        · rw [if_neg fun q => hgm.mp q h2, h2, h0]
        · rw [if_pos (hgm.mpr h2)]
      have b2 : ((if e.2.1 = sp then [] else [e.2.1]).map (W e.1)).sum = W e.1 e.2.1 := by
        by_cases h2 : e.2.1 = sp
        · rw [if_pos h2, h2, h0]
          rfl
        · rw [if_neg h2]
          simp
      rw [b1, b2]
      omega
    show keptR sp W (swFold (swStep f e) L) + _ = _
    rw [List.map_cons, List.sum_cons]
    have := hw e (by simp)
    omega
end
end Ew
namespace Ew
open PySem PySem.Spec PyProof.Rows L2
/-! ### the swaps of good rows; a ring leads on to good rows that keep more -/
def worthB (ws : List (List Int)) (r z : Int) : Int := if z ∈ at_ ws r then 1 else 0
def spB (b : Bk) : Int := (b.ds.length : Nat)
def othersB (b : Bk) (f : List (List Int)) (r : Int) : List Int := (at_ b.rs r).2.filter fun z => !decide (z ∈ at_ f r)
def givenB (b : Bk) (f : List (List Int)) (r : Int) : List Int := if freeB b f r = true then at_ f r ++ [spB b] else at_ f r
def swapsB (b : Bk) (ws f : List (List Int)) (r : Int) : List Swap := (givenB b f r).flatMap fun g => (othersB b f r ++ [spB b]).map fun t => (r, t, g, worthB ws r g - worthB ws r t)
def allSwB (b : Bk) (ws f : List (List Int)) (as : List Int) : List Swap := (presB b as).flatMap fun r => swapsB b ws f r
def keptB (b : Bk) (ws f : List (List Int)) : Int := keptR (spB b) (worthB ws) f
structure GoodR (b : Bk) (as : List Int) (f : List (List Int)) : Prop where
  ok : RowsOk b f
  abs : ∀ r : Int, 0 ≤ r ∧ r < (f.length : Int) → r ∈ as → at_ f r = []
  cnt : ∀ z : Int, 0 ≤ z ∧ z < b.ds.length → cntW f z = at_ b.ds z
theorem sw_mem {b : Bk} {ws f : List (List Int)} {as : List Int} {e : Swap} : e ∈ allSwB b ws f as ↔ e.1 ∈ presB b as ∧ (e.2.2.1 ∈ at_ f e.1 ∨ (e.2.2.1 = spB b ∧ freeB b f e.1 = true)) ∧ ((e.2.1 ∈ (at_ b.rs e.1).2 ∧ e.2.1 ∉ at_ f e.1) ∨ e.2.1 = spB b) ∧ e.2.2.2 = worthB ws e.1 e.2.2.1 - worthB ws e.1 e.2.1 := by
  unfold allSwB swapsB
  rw [List.mem_flatMap]
  constructor
  · rintro ⟨r, hr, h⟩
    obtain ⟨g, hg, h⟩ := List.mem_flatMap.mp h
    obtain ⟨t, ht, rfl⟩ := List.mem_map.mp h
    refine ⟨hr, ?_, ?_, rfl⟩
    · unfold givenB at hg
      split at hg
      · rename_i hf
        rcases List.mem_append.mp hg with hg | hg
        · exact .inl hg
        · exact .inr ⟨List.mem_singleton.mp hg, hf⟩
      · exact .inl hg
    · rcases List.mem_append.mp ht with ht | ht
      · unfold othersB at ht
        have := List.mem_filter.mp ht
        exact .inl ⟨this.1, by simpa using this.2⟩
      · exact .inr (List.mem_singleton.mp ht)
  · obtain ⟨r, t, g, l⟩ := e
    rintro ⟨h1, h2, h3, h4⟩
    refine ⟨r, h1, List.mem_flatMap.mpr ⟨g, ?_, List.mem_map.mpr ⟨t, ?_, ?_⟩⟩⟩
    · unfold givenB
      rcases h2 with h2 | ⟨h2, hf⟩
      · split
        · exact List.mem_append.mpr (.inl h2)
        · exact h2
      · have hf : freeB b f r = true := hf
        rw [if_pos hf]
        exact List.mem_append.mpr (.inr (List.mem_singleton.mpr h2))
    · rcases h3 with ⟨a, c⟩ | h3
      · exact List.mem_append.mpr (.inl (List.mem_filter.mpr ⟨a, by simpa using c⟩))
      · exact List.mem_append.mpr (.inr (List.mem_singleton.mpr h3))
    · have h4 : l = worthB ws r g - worthB ws r t := h4
      rw [h4]
section
variable {b : Bk} {ws f : List (List Int)} {as : List Int}
theorem RowsOk.may (ok : RowsOk b f) {r : Int} (h : 0 ≤ r ∧ r < (f.length : Int)) : ∀ z ∈ at_ f r, z ∈ (at_ b.rs r).2 := (ok.2 r h).2.1
theorem may_rg (dk : DsOk b.ds b.rs) {r : Int} (h : 0 ≤ r ∧ r < (b.rs.length : Int)) : ∀ z ∈ (at_ b.rs r).2, 0 ≤ z ∧ z < (b.ds.length : Int) := (dk.ok _ (at_mem h)).2.2.2
theorem sp_out (dk : DsOk b.ds b.rs) (ok : RowsOk b f) {r : Int} (h : 0 ≤ r ∧ r < (f.length : Int)) : spB b ∉ at_ f r := fun hm => by
  have := may_rg dk (by have := ok.1; omega) _ (ok.may h _ hm)
  unfold spB at this
  omega
theorem real_self (dk : DsOk b.ds b.rs) (ok : RowsOk b f) {r : Int} (h : 0 ≤ r ∧ r < (f.length : Int)) : realS (spB b) (at_ f r) = at_ f r := List.filter_eq_self.mpr fun z hz => by
  have : z ≠ spB b := fun e => sp_out dk ok h (e ▸ hz)
  simp [this]
theorem worth_sp (dk : DsOk b.ds b.rs) (ok : RowsOk b ws) (r : Int) : worthB ws r (spB b) = 0 := by
  unfold worthB
  rw [if_neg]
  intro hm
  by_cases h : 0 ≤ r ∧ r < (ws.length : Int)
  · exact sp_out dk ok h hm
  · by_cases h0 : 0 ≤ r
    · unfold at_ at hm
      rw [List.getD_eq_getElem?_getD, List.getElem?_eq_none (by omega)] at hm
      cases hm
    · have e : r.toNat = 0 := by omega
      unfold at_ at hm
      rw [e] at hm
      cases hw : ws with
      | nil => rw [hw] at hm; cases hm
      | cons w l =>
        have := sp_out dk ok (r := 0) ⟨by omega, by rw [hw]; simp⟩
        exact this hm
theorem sw_eok (dk : DsOk b.ds b.rs) (ok : RowsOk b f) : EOk (spB b + 1) (allSwB b ws f as) := fun e he => by
  obtain ⟨h1, h2, h3, _⟩ := sw_mem.mp he
  have hr := (presB_mem.mp h1).1
  have hs : 0 ≤ spB b := by unfold spB; omega
  have hm := may_rg dk hr
  have hs2 : spB b = (b.ds.length : Int) := rfl
  constructor
  · rcases h3 with ⟨a, _⟩ | h3
    · have := hm _ a
      omega
    · omega
  · rcases h2 with h2 | ⟨h2, _⟩
    · have := hm _ (ok.may (by have := ok.1; omega) _ h2)
      omega
    · omega
theorem filt_sum {α : Type} (p : α → Bool) : ∀ L : List α, ((L.filter p).length : Int) = (L.map fun e => if p e = true then (1 : Int) else 0).sum
  | [] => rfl
  | e :: L => by rw [filt_cons, filt_sum p L, List.map_cons, List.sum_cons]; omega
theorem ring_lists {E r : List Swap} {m : Nat} {c : Nat → Int} (R : Ring E r m c) : (r.map fun e => e.2.2.1) = (List.range m).map c ∧ (r.map fun e => e.2.1) = (List.range m).map fun k => c (k + 1) := by
  constructor
  · refine List.ext_getElem (by rw [List.length_map, List.length_map, List.length_range, R.len]) fun i h1 h2 => ?_
    rw [List.getElem_map, List.getElem_map, List.getElem_range]
    rw [List.length_map] at h1
    exact (R.ne i _ (List.getElem?_eq_getElem h1)).2.1
  · refine List.ext_getElem (by rw [List.length_map, List.length_map, List.length_range, R.len]) fun i h1 h2 => ?_
    rw [List.getElem_map, List.getElem_map, List.getElem_range]
    rw [List.length_map] at h1
    exact (R.ne i _ (List.getElem?_eq_getElem h1)).2.2
theorem nodup_range {c : Nat → Int} {m : Nat} (h : ∀ a b, a < m → b < m → c a = c b → a = b) : ((List.range m).map c).Nodup := by
  show List.Pairwise (· ≠ ·) _
  rw [List.pairwise_map]
  exact List.Pairwise.imp_of_mem (R := fun a b => a < b) (fun {x y} hx hy hxy e => by have := h x y (List.mem_range.mp hx) (List.mem_range.mp hy) e; omega) List.pairwise_lt_range
theorem ring_cnt {E r : List Swap} {m : Nat} {c : Nat → Int} (R : Ring E r m c) (z : Int) : ((r.filter fun e => decide (e.2.2.1 = z)).length : Int) = ((r.filter fun e => decide (e.2.1 = z)).length : Nat) := by
  obtain ⟨l1, l2⟩ := ring_lists R
  rw [filt_sum, filt_sum]
  have e1 : (r.map fun e => if decide (e.2.2.1 = z) = true then (1 : Int) else 0) = (List.range m).map fun k => if decide (c k = z) = true then (1 : Int) else 0 := by
    have : (r.map fun e => if decide (e.2.2.1 = z) = true then (1 : Int) else 0) = (r.map fun e => e.2.2.1).map fun x => if decide (x = z) = true then (1 : Int) else 0 := by rw [List.map_map]; rfl
    rw [this, l1, List.map_map]
    rfl
  have e2 : (r.map fun e => if decide (e.2.1 = z) = true then (1 : Int) else 0) = (List.range m).map fun k => if decide (c (k + 1) = z) = true then (1 : Int) else 0 := by
    have : (r.map fun e => if decide (e.2.1 = z) = true then (1 : Int) else 0) = (r.map fun e => e.2.1).map fun x => if decide (x = z) = true then (1 : Int) else 0 := by rw [List.map_map]; rfl
    rw [this, l2, List.map_map]
    rfl
  rw [e1, e2]
  have := sum_shift (fun k => if decide (c k = z) = true then (1 : Int) else 0) m
  rw [R.close] at this
  omega
theorem ring_st (dk : DsOk b.ds b.rs) (ok : RowsOk b f) {r : List Swap} {m : Nat} {c : Nat → Int} (R : Ring (allSwB b ws f as) r m c) : SwSt (spB b) f r := by
  obtain ⟨l1, l2⟩ := ring_lists R
  have hE : ∀ e ∈ r, e ∈ allSwB b ws f as := fun e he => by
    obtain ⟨i, hi⟩ := List.mem_iff_getElem?.mp he
    exact (R.ne i e hi).1
  refine ⟨?_, ?_, fun e he => ?_, fun e he => ?_, fun e he => ?_, fun r hr => ?_⟩
  · rw [l1]
    exact nodup_range R.inj
  · rw [l2]
    refine nodup_range fun x y hx hy e => ?_
    by_cases h1 : x + 1 < m
    · by_cases h2 : y + 1 < m
      · have := R.inj _ _ h1 h2 e
        omega
      · have : y + 1 = m := by omega
        rw [this, R.close] at e
        have := R.inj _ _ h1 R.pos e
        omega
    · have hx' : x + 1 = m := by omega
      by_cases h2 : y + 1 < m
      · rw [hx', R.close] at e
        have := R.inj _ _ R.pos h2 e
        omega
      · omega
  · have := (presB_mem.mp (sw_mem.mp (hE e he)).1).1
    have := ok.1
    omega
  · rcases (sw_mem.mp (hE e he)).2.1 with h | h
    · exact .inl h
    · exact .inr h.1
  · rcases (sw_mem.mp (hE e he)).2.2.1 with h | h
    · exact .inl h.2
    · exact .inr h
  · exact ((ok.2 r hr).1.imp fun h => by omega : (at_ f r).Nodup).filter _
theorem at_map {α β : Type} [Inhabited α] [Inhabited β] {g : α → β} {l : List α} {i : Int} (h : 0 ≤ i ∧ i < (l.length : Int)) : at_ (l.map g) i = g (at_ l i) := by
  have h1 := at_get h
  have h2 := at_get (l := l.map g) (i := i) (by rw [List.length_map]; exact h)
  rw [List.getElem?_map, h1] at h2
  exact (Option.some.inj h2).symm
theorem cntW_congr {g : List Int → List Int} {z : Int} : ∀ {l : List (List Int)}, (∀ w ∈ l, (z ∈ g w ↔ z ∈ w)) → cntW (l.map g) z = cntW l z
  | [], _ => rfl
  | w :: l, h => by
    rw [List.map_cons, cntW_cons, cntW_cons, cntW_congr fun x hx => h x (by simp [hx])]
    have := h w (by simp)
    unfold one_
    by_cases h1 : z ∈ w
    · rw [if_pos h1, if_pos (this.mpr h1)]
    · rw [if_neg h1, if_neg fun q => h1 (this.mp q)]
theorem perm_sum {l m : List Int} (h : l.Perm m) : l.sum = m.sum := by
  induction h with
  | nil => rfl
  | cons x _ ih => rw [List.sum_cons, List.sum_cons, ih]
  | swap x y l => rw [List.sum_cons, List.sum_cons, List.sum_cons, List.sum_cons]; omega
  | trans _ _ h1 h2 => exact h1.trans h2
theorem srt_sum {W : Int → Int} (l : List Int) : ((srt l).map W).sum = (l.map W).sum := perm_sum ((srt_perm l).map W)
theorem swapped_good (dk : DsOk b.ds b.rs) (hws : RowsOk b ws) (G : GoodR b as f) {r : List Swap} {m : Nat} {c : Nat → Int} (R : Ring (allSwB b ws f as) r m c) : GoodR b as (swappedB f r (spB b)) ∧ keptB b ws f < keptB b ws (swappedB f r (spB b)) := by
  have ok := G.ok
  have S := ring_st dk ok R
  have hE : ∀ e ∈ r, e ∈ allSwB b ws f as := fun e he => by
    obtain ⟨i, hi⟩ := List.mem_iff_getElem?.mp he
    exact (R.ne i e hi).1
  have hlen : (swappedB f r (spB b)).length = f.length := by
    unfold swappedB
    rw [List.length_map, fold_len]
  have hat : ∀ i : Int, 0 ≤ i ∧ i < (f.length : Int) → at_ (swappedB f r (spB b)) i = srt (realS (spB b) (at_ (swFold f r) i)) := fun i hi => by
    unfold swappedB
    exact at_map (by rw [fold_len]; exact hi)
  have hok : RowsOk b (swappedB f r (spB b)) := by
    refine ⟨hlen.trans ok.1, fun i hi => ?_⟩
    rw [hlen] at hi
    rw [hat i hi]
    have nd := fold_nd S i hi
    refine ⟨srt_lt nd, fun z hz => ?_, ?_⟩
    · obtain ⟨hz1, hz2⟩ := mem_real.mp (srt_mem.mp hz)
      rcases fold_mem S hi.1 hz1 with h | ⟨e, he, e1, e2⟩
      · exact ok.may hi z h
      · rcases (sw_mem.mp (hE e he)).2.2.1 with h | h
        · rw [e1, e2] at h
          exact h.1
        · exact absurd (e2.symm.trans h) hz2
    · rw [srt_len]
      have hs := fold_size hi.1 S hi.2
      rw [real_self dk ok hi] at hs
      have hrow := (ok.2 i hi).2.2
      have hle1 : (r.filter fun e => decide (e.1 = i) && decide (e.2.2.1 = spB b)).length ≤ 1 := by
        have nd2 : ((r.filter fun e => decide (e.1 = i) && decide (e.2.2.1 = spB b)).map fun e => e.2.2.1).Nodup := S.gd.sublist (List.filter_sublist.map _)
        have := nd_one (a := spB b) nd2 fun x hx => by
          obtain ⟨e, he, rfl⟩ := List.mem_map.mp hx
          have := (List.mem_filter.mp he).2
          simp at this
          exact this.2
        rwa [List.length_map] at this
      cases hl : r.filter fun e => decide (e.1 = i) && decide (e.2.2.1 = spB b) with
      | nil =>
        rw [hl] at hs
        simp only [List.length_nil] at hs
        omega
      | cons e l =>
        rw [hl] at hs hle1
        have he : e ∈ r.filter fun e => decide (e.1 = i) && decide (e.2.2.1 = spB b) := by rw [hl]; simp
        obtain ⟨he1, he2⟩ := List.mem_filter.mp he
        simp at he2
        rcases (sw_mem.mp (hE e he1)).2.1 with h | ⟨_, hf⟩
        · rw [he2.1, he2.2] at h
          exact absurd h (sp_out dk ok hi)
        · rw [he2.1] at hf
          unfold freeB at hf
          have := of_decide_eq_true hf
          rw [List.length_cons] at hs hle1
          omega
  refine ⟨⟨hok, fun i hi hm => ?_, fun z hz => ?_⟩, ?_⟩
  · rw [hlen] at hi
    rw [hat i hi, fold_out S hi.1 fun e he e1 => (presB_mem.mp (sw_mem.mp (hE e he)).1).2 (e1 ▸ hm), G.abs i hi hm]
    rfl
  · have hzs : z ≠ spB b := by unfold spB; omega
    have h1 := fold_cnt hzs S
    have h2 := ring_cnt R z
    rw [← G.cnt z hz]
    unfold swappedB
    rw [cntW_congr fun w _ => by rw [srt_mem, mem_real]; exact ⟨fun h => h.1, fun h => ⟨h, hzs⟩⟩]
    omega
  · have hk := fold_kept (W := worthB ws) S (fun e he => (sw_mem.mp (hE e he)).2.2.2) (worth_sp dk hws)
    have hneg := R.neg
    have e : keptB b ws (swappedB f r (spB b)) = keptR (spB b) (worthB ws) (swFold f r) := by
      unfold keptB keptR
      rw [hlen, fold_len]
      congr 1
      refine List.map_congr_left fun i hi => ?_
      have hi := iota_mem.mp hi
      have hi' : 0 ≤ i ∧ i < ((swappedB f r (spB b)).length : Int) := by rw [hlen]; exact hi
      rw [real_self dk hok hi', hat i hi, srt_sum]
    rw [e]
    unfold keptB
    omega
end
end Ew
/-! sorted(pairs, reverse=True) -/
namespace Ew
open PySem PySem.Spec PyProof.Rows L2
def rSortedPR (K : PySem.W.Frag) : List V → List V → Hp → VK → Prop := fun vs zs H Q => ∃ (a : Addr) (xs : List V) (k : V → Int × Int), vs = [V.ref a] ∧ zs = [.bl true] ∧ SqL K H a xs ∧ (∀ x ∈ xs, ∃ t, x = V.ref t ∧ H t = some (.tup [.int (k x).1, .int (k x).2])) ∧
  ∀ ys p, SrtO.Srtd (ltP k) ys → ys.Perm xs → H p = none → Q (.ref p) (upd H p (.lst ys.reverse))
theorem cr_sortedPR {X : Cx} : CallRK X (.builtin "sorted") [Str.ofString "reverse"] (rSortedPR X.K) := by
  intro pins s σ H vs zs us ws Q I r rz h
  obtain ⟨a, xs, k, rfl, rfl, hs, hx, q⟩ := h
  obtain rfl := Vals.ref1 r
  obtain ⟨w1, rfl, e1⟩ := vals1 rz
  obtain rfl : w1 = Value.bool true := e1
  obtain ⟨its, rv, hl, hz⟩ := I.list hs
  obtain ⟨e1, e2⟩ := refs_back rv fun x m => by
    obtain ⟨t, e, _⟩ := hx x m
    exact ⟨t, e⟩
  have hp : ∀ v ∈ its, Srt.IsPair s.heap v (k (backV v)).1 (k (backV v)).2 := fun v hv => by
    obtain ⟨t, rfl⟩ := e2 v hv
    have hm : V.ref t ∈ xs := by rw [e1]; exact List.mem_map.mpr ⟨_, hv, rfl⟩
    obtain ⟨t', e, ht⟩ := hx _ hm
    cases e
    obtain ⟨_, its2, r2, o, ho, hc, n, hd⟩ := I.hok _ _ ht
    obtain ⟨u1, u2, rfl, ri, rj⟩ := vals2 r2
    obtain ⟨t1, rfl⟩ := ri
    obtain ⟨t2, rfl⟩ := rj
    exact ⟨t, o, t1, t2, n, rfl, ho, hc, hd⟩
  refine SrtR.sorted_ordK (b := true) (fun _ => rfl) (PyProof.Rows.args_sorted_rev _ _) (fun _ => PyProof.Rows.args_list_sort_rev _ _) (SrtO.swo_lex fun u => k (backV u)) hl.isList (by rw [← rv.length]; exact hz) (fun h2 h₁ a' ha kk => ?_) fun out h1 h2 => ?_
  · refine SrtO.pairs_sortableO (s := { s with heap := h₁ }) (by omega) (fun v hm => (hp v hm).keeps fun b o e _ => (kk b o e).2) fun o e => ?_
    have e' : some o = some (seqObj "list" its.toArray 0) := e.symm.trans ha
    cases e'
    intro c
    exact absurd (Value.type.inj c) (by decide)
  · have h2p : out.Perm its := h2.perm.trans (List.reverse_perm _)
    have h3 : ∀ u ∈ out, ∃ a, u = Value.ref a := fun u hu => e2 u (h2p.mem_iff.mp hu)
    have hb : (out.map backV).Perm xs := by
      rw [e1]
      exact h2p.map backV
    obtain ⟨ep, he'⟩ := PyProof.Rows.sortedAll_at s.heap its out.toArray.reverse
    have hlen : (out.map backV).reverse.length ≤ sizeLine := by
      rw [List.length_reverse, hb.length_eq]
      exact hz
    have er : (out.map backV).reverse = out.reverse.map backV := by rw [List.map_reverse]
    have h4 : ∀ u ∈ out.reverse, ∃ a, u = Value.ref a := fun u hu => h3 u (List.mem_reverse.mp hu)
    have ea : out.reverse.toArray = out.toArray.reverse := by
      apply Array.ext'
      rw [Array.toList_reverse]
    refine ⟨.ref _, upd H (s.heap.objs.size + 1) (.lst (out.map backV).reverse), I.laid (t' := s.toks) (fun _ _ => PyProof.Rows.sortedAll_old) (Nat.le_succ _) ⟨hlen, out.reverse, ep, by rw [er]; exact vals_back h4, by rw [ea]; exact he'⟩, rfl, q _ _ (SrtO.srtd_map h1) hb (I.hok.fresh (Nat.le_succ _))⟩
/-! pairs that stand as tuples -/
section
variable {K : PySem.W.Frag} {C : Addr} {S : List Addr} {H : Hp} {σ : L2.St} {te ta tb : TE}
def kPt : Kd K C (Int × Int) where
  rp S H v x := ∃ t, v = .ref t ∧ H t = some (.tup [.int x.1, .int x.2])
  same s h := let ⟨t, e, q⟩ := h; ⟨t, e, s _ _ q⟩
  sx f s h := let ⟨t, e, q⟩ := h; ⟨t, e, s.old _ _ (fun m => by obtain ⟨o, e, w⟩ := f _ m; rw [q] at e; cases e; exact w) q⟩
  new n h := h
  less m h := h
theorem kPt_kP {v : V} {x : Int × Int} (h : (kPt (K := K) (C := C)).rp S H v x) : (kP kI kI : Kd K C _).rp S H v x := let ⟨t, e, q⟩ := h; ⟨t, _, _, e, .inl (.inl q), rfl, rfl⟩
theorem kLPt {v : V} {l : List (Int × Int)} (h : (kL (kPt (K := K) (C := C))).rp S H v l) : (kL (kP kI kI) : Kd K C _).rp S H v l := let ⟨a, vs, e, n, h1, p, hl⟩ := h; ⟨a, vs, e, n, h1, L2.Paired.mapP p fun _ _ z => kPt_kP z, hl⟩
theorem ev_pt {i j : Int} (ha : Ev (K := K) (C := C) kI S H ta σ i) (hb : Ev (K := K) (C := C) kI S H tb σ j) : Ev (K := K) (C := C) kPt S H (tTup (tCons ta (tCons tb tNil))) σ (i, j) := fun H1 s Q q =>
  ha H1 s _ fun v H2 s2 r => hb H2 (s.trans s2) _ fun w H3 s3 r3 => by
  cases (show v = .int i from r)
  cases (show w = .int j from r3)
  exact ⟨szL (by simp), fun p hn => q _ _ (s2.trans (s3.trans (sameU hn))) ⟨p, rfl, upd_same⟩⟩
end
/-- falling -/
def insP (x : Int × Int) : List (Int × Int) → List (Int × Int)
  | [] => [x]
  | y :: l => if SrtO.lexB x y = true then y :: insP x l else x :: y :: l
def srtP : List (Int × Int) → List (Int × Int)
  | [] => []
  | x :: l => insP x (srtP l)
theorem insP_perm (x : Int × Int) : ∀ l, (insP x l).Perm (x :: l)
  | [] => List.Perm.refl _
  | y :: l => by
    unfold insP
    by_cases h : SrtO.lexB x y = true
    · rw [if_pos h]
      exact (List.Perm.cons y (insP_perm x l)).trans (List.Perm.swap _ _ _)
    · rw [if_neg h]
theorem srtP_perm : ∀ l : List (Int × Int), (srtP l).Perm l
  | [] => List.Perm.refl _
  | x :: l => (insP_perm x (srtP l)).trans (List.Perm.cons x (srtP_perm l))
def geP (x y : Int × Int) : Prop := y.1 < x.1 ∨ (y.1 = x.1 ∧ y.2 ≤ x.2)
theorem geP_no {x y : Int × Int} (h : ¬ SrtO.lexB x y = true) : geP x y := by
  have h : SrtO.lexB x y = false := by simpa using h
  have h := SrtO.lexB_no.mp h
  unfold geP
  omega
theorem geP_yes {x y : Int × Int} (h : SrtO.lexB x y = true) : geP y x := by
  have h := SrtO.lexB_iff.mp h
  unfold geP
  omega
theorem geP_trans {x y z : Int × Int} (h : geP x y) (g : geP y z) : geP x z := by
  unfold geP at *
  omega
theorem insP_up (x : Int × Int) : ∀ {l : List (Int × Int)}, l.Pairwise geP → (insP x l).Pairwise geP
  | [], _ => List.pairwise_singleton _ _
  | y :: l, h => by
    have h' := List.pairwise_cons.mp h
    unfold insP
    by_cases hx : SrtO.lexB x y = true
    · rw [if_pos hx]
      refine List.pairwise_cons.mpr ⟨fun z hz => ?_, insP_up x h'.2⟩
      rcases List.mem_cons.mp ((insP_perm x l).mem_iff.mp hz) with rfl | hz
      · exact geP_yes hx
      · exact h'.1 z hz
    · rw [if_neg hx]
      refine List.pairwise_cons.mpr ⟨fun z hz => ?_, h⟩
      rcases List.mem_cons.mp hz with rfl | hz
      · exact geP_no hx
      · exact geP_trans (geP_no hx) (h'.1 z hz)
theorem srtP_up : ∀ l : List (Int × Int), (srtP l).Pairwise geP
  | [] => .nil
  | x :: l => insP_up x (srtP_up l)
theorem srtP_of {l m : List (Int × Int)} (p : m.Perm l) (u : m.Pairwise geP) : m = srtP l :=
  (p.trans (srtP_perm l).symm).eq_of_pairwise (fun a b _ _ h1 h2 => by
    unfold geP at *
    obtain ⟨a1, a2⟩ := a
    obtain ⟨b1, b2⟩ := b
    dsimp only at *
    rw [Prod.mk.injEq]
    omega) u (srtP_up l)
theorem srtP_len (l : List (Int × Int)) : (srtP l).length = l.length := (srtP_perm l).length_eq
section
variable {K : PySem.W.Frag} {C : Addr} {S : List Addr} {H : Hp} {σ : L2.St} {te ta tb : TE}
/-- the pair that a value is -/
noncomputable def pairOf (H : Hp) (v : V) : Int × Int := match v with
  | .ref t => match H t with
    | some (.tup [.int i, .int j]) => (i, j)
    | _ => (0, 0)
  | _ => (0, 0)
theorem pairOf_eq {v : V} {x : Int × Int} (h : (kPt (K := K) (C := C)).rp S H v x) : pairOf H v = x := by
  obtain ⟨t, rfl, e⟩ := h
  unfold pairOf
  dsimp only
  rw [e]
theorem pairs_map : ∀ {vs : List V} {l : List (Int × Int)}, Paired ((kPt (K := K) (C := C)).rp S H) vs l → vs.map (pairOf H) = l
  | _, _, .nil => rfl
  | _, _, .cons h t => by rw [List.map_cons, pairOf_eq h, pairs_map t]
theorem paired_of : ∀ {vs : List V}, (∀ v ∈ vs, (kPt (K := K) (C := C)).rp S H v (pairOf H v)) → Paired ((kPt (K := K) (C := C)).rp S H) vs (vs.map (pairOf H))
  | [], _ => .nil
  | v :: vs, h => .cons (h v (by simp)) (paired_of fun u hu => h u (by simp [hu]))
theorem evn_sortPR {l : List (Int × Int)} (h : Ev (K := K) (C := C) (kL kPt) S H ta σ l) (fr : Fr C S H) : EvN (K := K) (C := C) (kL kPt) S H (tCKw (rSortedPR K) (tCons ta tNil) (tCons (tC (.bl true)) tNil)) σ (srtP l) := fun H1 s Q q =>
  h H1 s _ fun v H2 s2 r => by
  obtain ⟨a, vs, rfl, na, hA, hP, hl⟩ := r
  have hv : ∀ v ∈ vs, (kPt (K := K) (C := C)).rp S H2 v (pairOf H2 v) := fun v hv => by
    obtain ⟨i, hi⟩ := List.mem_iff_getElem?.mp hv
    obtain ⟨x, _, r⟩ := Paired.at1 hP hi
    rw [pairOf_eq r]
    exact r
  refine ⟨a, vs, pairOf H2, rfl, rfl, .inl (.inl hA), hv, fun ys p hs hp hn => ?_⟩
  have hys : ∀ v ∈ ys.reverse, (kPt (K := K) (C := C)).rp S H2 v (pairOf H2 v) := fun v h => hv v (hp.mem_iff.mp (List.mem_reverse.mp h))
  have e : ys.reverse.map (pairOf H2) = srtP l := by
    refine srtP_of ?_ ?_
    · rw [← pairs_map hP]
      exact ((List.reverse_perm _).trans hp).map _
    · rw [List.map_reverse, List.pairwise_reverse, List.pairwise_map]
      refine List.Pairwise.imp (fun {x y} h => ?_) hs
      exact geP_no (by rw [show SrtO.lexB (pairOf H2 y) (pairOf H2 x) = false from h]; exact Bool.false_ne_true)
  have hP2 := paired_of (K := K) (C := C) (S := S) hys
  rw [e] at hP2
  exact q p _ (s2.free hn) (s2.trans (sameU hn)) ⟨p, _, rfl, (fr.same (s.trans s2)).out hn, upd_same, L2.Paired.mapP hP2 fun _ _ z => kPt.same (sameU hn) z, by rw [srtP_len]; exact hl⟩
end
end Ew
namespace Ew
open PySem PySem.Spec PyProof.Rows L2
/-! ### droppings -/
def countsB (b : Bk) (ws : List (List Int)) (as l : List Int) : List (Int × Int) := (presB b as).map fun r => (cnt2 (at_ b.rs r) (at_ ws r) l, r)
def dropLoop (wanted : Int) : List (Int × Int) → List Int → Int → List Int × Int
  | [], d, left => (d, left)
  | p :: ps, d, left => if left < wanted then (d, left) else dropLoop wanted ps (d ++ [p.2]) (left - p.1)
def fewB (b : Bk) (ws : List (List Int)) (as l : List Int) : Option (List Int) :=
  if (dropLoop (wantL b.ds l) (srtP (countsB b ws as l)) [] ((countsB b ws as l).map fun y => y.1).sum).2 < wantL b.ds l then some (srt (dropLoop (wantL b.ds l) (srtP (countsB b ws as l)) [] ((countsB b ws as l).map fun y => y.1).sum).1) else none
def leastStep (b : Bk) (ws : List (List Int)) (as : List Int) (m : Option (List Int × List Int)) (l : List Int) : Option (List Int × List Int) := match fewB b ws as l with
  | none => m
  | some d => match m with
    | none => some (l, d)
    | some (w, e) => if d.length < e.length then some (l, d) else some (w, e)
def leastB (b : Bk) (ws : List (List Int)) (as : List Int) : Option (List Int × List Int) := (allSets b.ds.length).foldl (leastStep b ws as) none
def borneB (b : Bk) (ws : List (List Int)) (as : List Int) : Int := match leastB b ws as with
  | none => ((presB b as).length : Nat)
  | some (_, d) => ((d.length : Nat) : Int) - 1
def reasonB (b : Bk) (ws : List (List Int)) (as : List Int) (n : Int) : Option (List Int × List Int) := match leastB b ws as with
  | none => none
  | some (w, d) => if n < ((d.length : Nat) : Int) then none else some (w, d)
def isReasonB (b : Bk) (ws : List (List Int)) (as : List Int) (n : Int) (v : List Int × List Int) : Bool :=
  setB (b.ds.length : Nat) v.1 && (ascI (b.rs.length : Nat) (-1) v.2 && (decide (((v.2.length : Nat) : Int) ≤ n) && (v.2.all (fun r => !decide (r ∈ as)) && shortB b ws (srt (as ++ v.2)) v.1)))
abbrev kRe {K : PySem.W.Frag} {C : Addr} : Kd K C (List Int × List Int) := kP (kT kI) (kT kI)
def pRe {K : PySem.W.Frag} {C : Addr} : KPy (kRe (K := K) (C := C)) 3 := pP (pT pI) (pT pI)
def pORe {K : PySem.W.Frag} {C : Addr} : KPy (kO (kRe (K := K) (C := C))) 3 := ⟨fun x => match x with
    | none => .none
    | some y => (pRe (K := K) (C := C)).py y, fun {S H v x} h => by
      cases x with
      | none => cases (show v = .non from h); exact .non
      | some y => exact pRe.dp h, fun x => by
      cases x with
      | none => rfl
      | some y => exact pRe.lay y, fun x => by
      cases x with
      | none => exact Nat.zero_le _
      | some y => exact pRe.dep y, fun x y => by
      cases x with
      | none => cases y <;> rfl
      | some x =>
        cases y with
        | none => rfl
        | some y =>
          show PyData.eqv (pRe.py x) (pRe.py y) = _
          rw [pRe.eqv]
          simp⟩
section
variable {K : PySem.W.Frag} {C : Addr} {α : Type} {k : Kd K C α} {S : List Addr} {H : Hp} {σ : L2.St} {te : TE}
theorem ev_LPt {l : List (Int × Int)} (h : Ev (K := K) (C := C) (kL kPt) S H te σ l) : Ev (K := K) (C := C) (kL (kP kI kI)) S H te σ l := fun H1 s Q q => h H1 s Q fun v H2 s2 r => q v H2 s2 (kLPt r)
end
theorem isr_rg {n m : Int} {l d : List Int} (h : (!setB n l || !ascI m (-1) d) = false) : ∀ z ∈ l, 0 ≤ z ∧ z < n := fun z hz => by
  have h1 : setB n l = true := by simpa using (Bool.or_eq_false_iff.mp h).1
  unfold setB at h1
  have := (ascI_iff.mp (Bool.and_eq_true_iff.mp h1).1).2 z hz
  omega
theorem isr_a {b : Bk} {ws : List (List Int)} {as : List Int} {n : Int} {v : List Int × List Int} (h : (!setB (b.ds.length : Nat) v.1 || !ascI (b.rs.length : Nat) (-1) v.2) = true) : false = isReasonB b ws as n v := by
  unfold isReasonB
  cases h1 : setB (b.ds.length : Nat) v.1 with
  | false => rfl
  | true =>
    rw [h1] at h
    cases h2 : ascI (b.rs.length : Nat) (-1) v.2 with
    | false => rfl
    | true => rw [h2] at h; cases h
theorem isr_b {b : Bk} {ws : List (List Int)} {as : List Int} {n : Int} {v : List Int × List Int} (h : (!setB (b.ds.length : Nat) v.1 || !ascI (b.rs.length : Nat) (-1) v.2) = false) (h2 : (decide (n < ((v.2.length : Nat) : Int)) || (List.map (fun y => decide (y ∈ as)) (v.2.filter fun _ => true)).any id) = true) : false = isReasonB b ws as n v := by
  unfold isReasonB
  obtain ⟨a1, a2⟩ := Bool.or_eq_false_iff.mp h
  rw [show setB (b.ds.length : Nat) v.1 = true by simpa using a1, show ascI (b.rs.length : Nat) (-1) v.2 = true by simpa using a2]
  rcases Bool.or_eq_true_iff.mp h2 with h2 | h2
  · have := of_decide_eq_true h2
    rw [decide_eq_false (by omega)]
    rfl
  · rw [List.filter_eq_self.mpr fun _ _ => rfl, List.any_map] at h2
    obtain ⟨r, hr, e⟩ := List.any_eq_true.mp h2
    have e : r ∈ as := of_decide_eq_true e
    have : v.2.all (fun r => !decide (r ∈ as)) = false := by
      rw [Bool.eq_false_iff]
      intro h'
      have := List.all_eq_true.mp h' r hr
      simp [e] at this
    rw [this]
    simp
theorem isr_c {b : Bk} {ws : List (List Int)} {as : List Int} {n : Int} {v : List Int × List Int} (h : (!setB (b.ds.length : Nat) v.1 || !ascI (b.rs.length : Nat) (-1) v.2) = false) (h2 : (decide (n < ((v.2.length : Nat) : Int)) || (List.map (fun y => decide (y ∈ as)) (v.2.filter fun _ => true)).any id) = false) : shortB b ws (srt (as ++ v.2)) v.1 = isReasonB b ws as n v := by
  unfold isReasonB
  obtain ⟨a1, a2⟩ := Bool.or_eq_false_iff.mp h
  obtain ⟨b1, b2⟩ := Bool.or_eq_false_iff.mp h2
  have := of_decide_eq_false b1
  rw [List.filter_eq_self.mpr fun _ _ => rfl, List.any_map] at b2
  have b3 : v.2.all (fun r => !decide (r ∈ as)) = true := List.all_eq_true.mpr fun r hr => by
    have := List.any_eq_false.mp b2 r hr
    simpa using this
  rw [show setB (b.ds.length : Nat) v.1 = true by simpa using a1, show ascI (b.rs.length : Nat) (-1) v.2 = true by simpa using a2, decide_eq_true (by omega), b3]
  rfl
section
variable {P : Program} {w : World} {K : PySem.W.Frag} {mg : Str → Option Value} {base : Heap} {C : Addr}
def sp_fewest_droppers (K : PySem.W.Frag) (C : Addr) : Sp := spD (K := K) (C := C) (aC kBk (aC kWs (aC (kT kI) (aC (kT kI) aN)))) (kO (kT kI)) (fun a => a.2.1.length = a.1.rs.length ∧ ∀ z ∈ a.2.2.2.1, 0 ≤ z ∧ z < a.1.ds.length) fun a => fewB a.1 a.2.1 a.2.2.1 a.2.2.2.1
def sp_least_reason (K : PySem.W.Frag) (C : Addr) : Sp := spD (K := K) (C := C) (aC kBk (aC kWs (aC (kT kI) aN))) (kO kRe) (fun a => a.2.1.length = a.1.rs.length) fun a => leastB a.1 a.2.1 a.2.2.1
def sp_borne (K : PySem.W.Frag) (C : Addr) : Sp := spD (K := K) (C := C) (aC kBk (aC kWs (aC (kT kI) aN))) kI (fun a => a.2.1.length = a.1.rs.length) fun a => borneB a.1 a.2.1 a.2.2.1
def sp_reason (K : PySem.W.Frag) (C : Addr) : Sp := spD (K := K) (C := C) (aC kBk (aC kWs (aC (kT kI) (aC kI aN)))) (kO kRe) (fun a => a.2.1.length = a.1.rs.length) fun a => reasonB a.1 a.2.1 a.2.2.1 a.2.2.2.1
def sp_is_set_of_works (K : PySem.W.Frag) (C : Addr) : Sp := spD (K := K) (C := C) (aC (kT kI) (aC kI aN)) kB (fun (l , n , _) => True) fun (l, n, _) => setB n l
def sp_is_reason (K : PySem.W.Frag) (C : Addr) : Sp := spD (K := K) (C := C) (aC kBk (aC (kL (kT kI)) (aC (kT kI) (aC kI (aC (kP (kT kI) (kT kI)) aN))))) kB (fun (b , ws , as , n , ld , _) => ws.length = b.rs.length ∧ (as.length + ld.2.length : Nat) < 64) fun (b, ws, as, n, ld, _) => isReasonB b ws as n ld
end
end Ew
namespace Ew
open PySem PySem.Spec PyProof.Rows L2
/-! ### the fewest droppers are the fewest -/
def fs (L : List (Int × Int)) : Int := (L.map fun p => p.1).sum
theorem fs_cons (p : Int × Int) (L : List (Int × Int)) : fs (p :: L) = p.1 + fs L := by
  unfold fs
  rw [List.map_cons, List.sum_cons]
theorem fs_app (L M : List (Int × Int)) : fs (L ++ M) = fs L + fs M := by
  unfold fs
  rw [List.map_append, List.sum_append]
theorem fs_perm {L M : List (Int × Int)} (h : L.Perm M) : fs L = fs M := by
  induction h with
  | nil => rfl
  | cons x _ ih => rw [fs_cons, fs_cons, ih]
  | swap x y l => rw [fs_cons, fs_cons, fs_cons, fs_cons]; omega
  | trans _ _ h1 h2 => exact h1.trans h2
theorem fs_split (q : Int × Int → Bool) : ∀ L : List (Int × Int), fs L = fs (L.filter q) + fs (L.filter fun p => !q p)
  | [] => rfl
  | p :: L => by
    have ih := fs_split q L
    rw [fs_cons]
    cases h : q p with
    | true => rw [List.filter_cons_of_pos h, List.filter_cons_of_neg (by simp [h]), fs_cons]; omega
    | false => rw [List.filter_cons_of_neg (by simp [h]), List.filter_cons_of_pos (by simp [h]), fs_cons]; omega
theorem dropLoop_spec {wanted : Int} : ∀ {L : List (Int × Int)} {d : List Int} {left : Int}, ∃ k, k ≤ L.length ∧ dropLoop wanted L d left = (d ++ (L.take k).map (fun p => p.2), left - fs (L.take k)) ∧ (∀ j, j < k → wanted ≤ left - fs (L.take j)) ∧ (k = L.length ∨ left - fs (L.take k) < wanted)
  | [], d, left => ⟨0, Nat.le_refl _, by simp [dropLoop, fs], fun j hj => by omega, .inl rfl⟩
  | p :: L, d, left => by
    by_cases h : left < wanted
    · refine ⟨0, Nat.zero_le _, ?_, fun j hj => by omega, .inr ?_⟩
      · rw [dropLoop, if_pos h]
        simp [fs]
      · simp [fs]
        exact h
    · obtain ⟨k, h1, h2, h3, h4⟩ := dropLoop_spec (wanted := wanted) (L := L) (d := d ++ [p.2]) (left := left - p.1)
      refine ⟨k + 1, by simp; omega, ?_, fun j hj => ?_, ?_⟩
      · rw [dropLoop, if_neg h, h2, List.take_succ_cons, List.map_cons, fs_cons, List.append_assoc]
        show (_, _) = (_, _)
        rw [show left - p.1 - fs (L.take k) = left - (p.1 + fs (L.take k)) by omega]
        rfl
      · cases j with
        | zero => simp [fs]; omega
        | succ j =>
          have := h3 j (by omega)
          rw [List.take_succ_cons, fs_cons]
          omega
      · rw [List.take_succ_cons, fs_cons, List.length_cons]
        rcases h4 with h4 | h4
        · exact .inl (by omega)
        · exact .inr (by omega)
theorem fs_shift : ∀ {L : List (Int × Int)} {a : Int × Int} {m : Nat}, (∀ x ∈ L, x.1 ≤ a.1) → L.Pairwise (fun x y => y.1 ≤ x.1) → m ≤ L.length → fs (L.take m) ≤ fs ((a :: L).take m)
  | L, a, 0, _, _, _ => by simp
  | [], a, m + 1, _, _, h => by simp at h
  | y :: L, a, m + 1, ha, hp, h => by
    have hp' := List.pairwise_cons.mp hp
    have ih := fs_shift (L := L) (a := y) (m := m) hp'.1 hp'.2 (by simp at h; omega)
    have := ha y (by simp)
    rw [List.take_succ_cons, fs_cons, List.take_succ_cons, fs_cons]
    omega
theorem fs_top : ∀ {M L : List (Int × Int)}, M.Sublist L → L.Pairwise (fun x y => y.1 ≤ x.1) → fs M ≤ fs (L.take M.length)
  | _, _, .slnil, _ => by simp [fs]
  | M, a :: L, .cons _ h, hp => by
    have hp' := List.pairwise_cons.mp hp
    have h1 := fs_top h hp'.2
    have h2 := fs_shift (a := a) (m := M.length) hp'.1 hp'.2 h.length_le
    omega
  | a :: M, _ :: L, .cons_cons _ h, hp => by
    have hp' := List.pairwise_cons.mp hp
    have h1 := fs_top h hp'.2
    rw [List.length_cons, List.take_succ_cons, fs_cons, fs_cons]
    omega
section
variable {b : Bk} {ws : List (List Int)} {as l : List Int}
theorem counts_snd : (countsB b ws as l).map (fun p => p.2) = presB b as := by
  unfold countsB
  rw [List.map_map]
  exact List.map_id _
theorem sort_fst : (srtP (countsB b ws as l)).Pairwise (fun x y => y.1 ≤ x.1) := (srtP_up _).imp fun h => by
  unfold geP at h
  omega
theorem sort_snd : ((srtP (countsB b ws as l)).map (fun p => p.2)).Perm (presB b as) := by
  rw [← counts_snd (ws := ws) (l := l)]
  exact (srtP_perm _).map _
theorem sort_nd : ((srtP (countsB b ws as l)).map (fun p => p.2)).Nodup := sort_snd.nodup_iff.mpr (presB_nd b as)
theorem pres_drop {d : List Int} : presB b (srt (as ++ d)) = (presB b as).filter fun r => !decide (r ∈ d) := by
  show presL b.rs (srt (as ++ d)) = (presL b.rs as).filter _
  unfold presL
  rw [List.filter_filter]
  refine List.filter_congr fun r _ => ?_
  rw [← Bool.not_or]
  congr 1
  rw [Bool.eq_iff_iff]
  simp only [Bool.or_eq_true, decide_eq_true_eq, srt_mem, List.mem_append]
  exact or_comm
theorem sum_pres {d : List Int} : ((presB b (srt (as ++ d))).map fun r => cnt2 (at_ b.rs r) (at_ ws r) l).sum = fs ((srtP (countsB b ws as l)).filter fun p => !decide (p.2 ∈ d)) := by
  rw [fs_perm ((srtP_perm (countsB b ws as l)).filter _), pres_drop]
  unfold fs countsB
  rw [List.filter_map, List.map_map]
  rfl
theorem total_eq : ((countsB b ws as l).map fun y => y.1).sum = fs (srtP (countsB b ws as l)) := (fs_perm (srtP_perm (countsB b ws as l))).symm
theorem short_iff {d : List Int} : shortB b ws (srt (as ++ d)) l = true ↔ fs (srtP (countsB b ws as l)) - fs ((srtP (countsB b ws as l)).filter fun p => decide (p.2 ∈ d)) < wantL b.ds l := by
  unfold shortB
  rw [decide_eq_true_eq, sum_pres]
  have := fs_split (fun p => decide (p.2 ∈ d)) (srtP (countsB b ws as l))
  omega
theorem filter_take (k : Nat) : ∀ {L : List (Int × Int)}, (L.map fun p => p.2).Nodup → ∀ k, L.filter (fun p => decide (p.2 ∈ (L.take k).map fun p => p.2)) = L.take k
  | [], _, k => by simp
  | p :: L, nd, 0 => by simp
  | p :: L, nd, k + 1 => by
    have nd' := List.nodup_cons.mp (by rw [List.map_cons] at nd; exact nd)
    rw [List.take_succ_cons, List.map_cons, List.filter_cons_of_pos (by simp)]
    congr 1
    rw [← filter_take k nd'.2 k]
    refine List.filter_congr fun x hx => ?_
    have : x.2 ≠ p.2 := fun e => nd'.1 (e ▸ List.mem_map_of_mem (f := fun p => p.2) hx)
    rw [filter_take k nd'.2 k]
    simp [this]
/-- what fewest_droppers tells -/
theorem few_spec : match fewB b ws as l with
    | some d => d.Pairwise (· < ·) ∧ (∀ r ∈ d, r ∈ presB b as) ∧ shortB b ws (srt (as ++ d)) l = true ∧ ∀ e : List Int, e.Nodup → (∀ r ∈ e, r ∈ presB b as) → shortB b ws (srt (as ++ e)) l = true → d.length ≤ e.length
    | none => ∀ e : List Int, e.Nodup → (∀ r ∈ e, r ∈ presB b as) → shortB b ws (srt (as ++ e)) l = false := by
  obtain ⟨k, h1, h2, h3, h4⟩ := dropLoop_spec (wanted := wantL b.ds l) (L := srtP (countsB b ws as l)) (d := []) (left := ((countsB b ws as l).map fun y => y.1).sum)
  have hmin : ∀ e : List Int, e.Nodup → (∀ r ∈ e, r ∈ presB b as) → shortB b ws (srt (as ++ e)) l = true → fs (srtP (countsB b ws as l)) - fs ((srtP (countsB b ws as l)).take e.length) < wantL b.ds l := fun e nd hs hsh => by
    have h := short_iff.mp hsh
    have hle : ((srtP (countsB b ws as l)).filter fun p => decide (p.2 ∈ e)).length = e.length := by
      have h1 : (((srtP (countsB b ws as l)).filter fun p => decide (p.2 ∈ e)).map fun p => p.2).length = e.length := nodup_same (sort_nd.sublist (List.filter_sublist.map _)) nd fun z => by
        constructor
        · intro hz
          obtain ⟨p, hp, rfl⟩ := List.mem_map.mp hz
          exact of_decide_eq_true (List.mem_filter.mp hp).2
        · intro hz
          obtain ⟨p, hp, rfl⟩ := List.mem_map.mp (sort_snd.mem_iff.mpr (hs z hz) : z ∈ (srtP (countsB b ws as l)).map fun p => p.2)
          exact List.mem_map.mpr ⟨p, List.mem_filter.mpr ⟨hp, decide_eq_true hz⟩, rfl⟩
      rw [List.length_map] at h1
      exact h1
    have ht := fs_top (List.filter_sublist (p := fun p => decide (p.2 ∈ e)) (l := srtP (countsB b ws as l))) sort_fst
    rw [hle] at ht
    omega
  rw [total_eq] at h2 h3 h4
  have ef : fewB b ws as l = if fs (srtP (countsB b ws as l)) - fs ((srtP (countsB b ws as l)).take k) < wantL b.ds l then some (srt (((srtP (countsB b ws as l)).take k).map fun p => p.2)) else none := by
    unfold fewB
    rw [total_eq, h2]
    rfl
  rw [ef]
  by_cases hk : fs (srtP (countsB b ws as l)) - fs ((srtP (countsB b ws as l)).take k) < wantL b.ds l
  · rw [if_pos hk]
    have ndk : (((srtP (countsB b ws as l)).take k).map fun p => p.2).Nodup := sort_nd.sublist ((List.take_sublist k _).map _)
    refine ⟨srt_lt ndk, fun r hr => ?_, ?_, fun e nd hs hsh => ?_⟩
    · have hr := srt_mem.mp hr
      exact (sort_snd (ws := ws) (l := l)).mem_iff.mp (((List.take_sublist k _).map (fun p : Int × Int => p.2)).subset hr)
    · rw [short_iff]
      have e1 : ((srtP (countsB b ws as l)).filter fun p => decide (p.2 ∈ srt (((srtP (countsB b ws as l)).take k).map fun p => p.2))) = (srtP (countsB b ws as l)).take k := by
        rw [← filter_take k sort_nd k]
        refine List.filter_congr fun x _ => ?_
        rw [filter_take k sort_nd k]
        rw [Bool.eq_iff_iff]
        simp only [decide_eq_true_eq, srt_mem]
      rw [e1]
      exact hk
    · rw [srt_len, List.length_map, List.length_take]
      have := hmin e nd hs hsh
      by_cases hlt : e.length < k
      · have := h3 _ hlt
        omega
      · omega
  · rw [if_neg hk]
    intro e nd hs
    rw [Bool.eq_false_iff]
    intro hsh
    have hm := hmin e nd hs hsh
    rcases h4 with h4 | h4
    · have hle : e.length ≤ k := by
        rw [h4, srtP_len]
        unfold countsB
        rw [List.length_map]
        exact sub_len nd hs
      rcases Nat.lt_or_ge e.length k with h | h
      · have := h3 _ h
        omega
      · have : e.length = k := by omega
        rw [this] at hm
        exact hk hm
    · exact hk h4
/-- what least_reason tells -/
theorem least_spec : match leastB b ws as with
    | some (l, d) => l ∈ allSets b.ds.length ∧ fewB b ws as l = some d ∧ ∀ l' ∈ allSets b.ds.length, ∀ d', fewB b ws as l' = some d' → d.length ≤ d'.length
    | none => ∀ l ∈ allSets b.ds.length, fewB b ws as l = none := by
  have key : ∀ (todo done : List (List Int)) (m : Option (List Int × List Int)), (match m with
      | some (l, d) => l ∈ done ∧ fewB b ws as l = some d ∧ ∀ l' ∈ done, ∀ d', fewB b ws as l' = some d' → d.length ≤ d'.length
      | none => ∀ l ∈ done, fewB b ws as l = none) → (match todo.foldl (leastStep b ws as) m with
      | some (l, d) => l ∈ done ++ todo ∧ fewB b ws as l = some d ∧ ∀ l' ∈ done ++ todo, ∀ d', fewB b ws as l' = some d' → d.length ≤ d'.length
      | none => ∀ l ∈ done ++ todo, fewB b ws as l = none) := by
    intro todo
    induction todo with
    | nil =>
      intro done m h
      rw [List.append_nil]
      exact h
    | cons l todo ih =>
      intro done m h
      rw [List.foldl_cons, show done ++ l :: todo = (done ++ [l]) ++ todo by simp]
      refine ih (done ++ [l]) _ ?_
      unfold leastStep
      cases hf : fewB b ws as l with
      | none =>
        cases m with
        | none =>
          intro l' hl'
          rcases List.mem_append.mp hl' with hl' | hl'
          · exact h l' hl'
          · rw [List.mem_singleton.mp hl']
            exact hf
        | some me =>
          obtain ⟨w, e⟩ := me
          refine ⟨List.mem_append.mpr (.inl h.1), h.2.1, fun l' hl' d' hd' => ?_⟩
          rcases List.mem_append.mp hl' with hl' | hl'
          · exact h.2.2 l' hl' d' hd'
          · rw [List.mem_singleton.mp hl', hf] at hd'
            cases hd'
      | some d =>
        cases m with
        | none =>
          refine ⟨by simp, hf, fun l' hl' d' hd' => ?_⟩
          rcases List.mem_append.mp hl' with hl' | hl'
          · rw [h l' hl'] at hd'
            cases hd'
          · rw [List.mem_singleton.mp hl', hf] at hd'
            cases hd'
            exact Nat.le_refl _
        | some me =>
          obtain ⟨w, e⟩ := me
          dsimp only
          by_cases hlt : d.length < e.length
          · rw [if_pos hlt]
            refine ⟨by simp, hf, fun l' hl' d' hd' => ?_⟩
            rcases List.mem_append.mp hl' with hl' | hl'
            · have := h.2.2 l' hl' d' hd'
              omega
            · rw [List.mem_singleton.mp hl', hf] at hd'
              cases hd'
              exact Nat.le_refl _
          · rw [if_neg hlt]
            refine ⟨List.mem_append.mpr (.inl h.1), h.2.1, fun l' hl' d' hd' => ?_⟩
            rcases List.mem_append.mp hl' with hl' | hl'
            · exact h.2.2 l' hl' d' hd'
            · rw [List.mem_singleton.mp hl', hf] at hd'
              cases hd'
              omega
  have h := key (allSets b.ds.length) [] none (fun l hl => (nomatch hl))
  rw [List.nil_append] at h
  unfold leastB
  exact h
/-- the greatest number that is borne: behind each dropping of at most so many no set is short, and behind one of one more one is -/
theorem borne_spec : (∀ e : List Int, e.Nodup → (∀ r ∈ e, r ∈ presB b as) → ((e.length : Nat) : Int) ≤ borneB b ws as → ∀ l ∈ allSets b.ds.length, shortB b ws (srt (as ++ e)) l = false) ∧
    (borneB b ws as = ((presB b as).length : Nat) ∨ ∃ l d, leastB b ws as = some (l, d) ∧ l ∈ allSets b.ds.length ∧ d.Pairwise (· < ·) ∧ (∀ r ∈ d, r ∈ presB b as) ∧ shortB b ws (srt (as ++ d)) l = true ∧ ((d.length : Nat) : Int) = borneB b ws as + 1) ∧ -1 ≤ borneB b ws as ∧ borneB b ws as ≤ ((presB b as).length : Nat) := by
  have hl := least_spec (b := b) (ws := ws) (as := as)
  cases hm : leastB b ws as with
  | none =>
    rw [hm] at hl
    have eb : borneB b ws as = ((presB b as).length : Nat) := by
      unfold borneB
      rw [hm]
    refine ⟨fun e nd hs _ l hl' => ?_, .inl eb, by omega, by omega⟩
    have hf := few_spec (b := b) (ws := ws) (as := as) (l := l)
    rw [hl l hl'] at hf
    exact hf e nd hs
  | some me =>
    obtain ⟨l, d⟩ := me
    rw [hm] at hl
    obtain ⟨h1, h2, h3⟩ := hl
    have eb : borneB b ws as = ((d.length : Nat) : Int) - 1 := by
      unfold borneB
      rw [hm]
    have hf := few_spec (b := b) (ws := ws) (as := as) (l := l)
    rw [h2] at hf
    obtain ⟨f1, f2, f3, f4⟩ := hf
    have hdl : d.length ≤ (presB b as).length := sub_len (nodup_asc f1) f2
    refine ⟨fun e nd hs hle l' hl' => ?_, .inr ⟨l, d, rfl, h1, f1, f2, f3, by omega⟩, by omega, by omega⟩
    rw [Bool.eq_false_iff]
    intro hsh
    have hf' := few_spec (b := b) (ws := ws) (as := as) (l := l')
    cases hq : fewB b ws as l' with
    | none =>
      rw [hq] at hf'
      rw [hf' e nd hs] at hsh
      cases hsh
    | some d' =>
      rw [hq] at hf'
      have := hf'.2.2.2 e nd hs hsh
      have := h3 l' hl' d' hq
      omega
end
end Ew
namespace Ew
open PySem PySem.Spec PyProof.Rows L2
/-! ### what the law looks at -/
def lextBad (ws : List (List Int)) (as : List Int) (p : Int × List Int) : Bool := (decide (p.1 ∈ as) && !decide (p.2 = [])) || (!decide (p.1 ∈ as) && !((at_ ws p.1).filter fun z => !decide (z ∈ p.2)).isEmpty)
def lextB (ds : List Int) (rs : List (Int × List Int)) (ws : List (List Int)) (as : List Int) (vs : List (List Int)) : Bool := rowsB vs rs && ((enum vs).all (fun p => !lextBad ws as p) && decide (timesE vs (ds.length : Nat) = keptL ds ws as))
theorem lext_no1 {ds : List Int} {rs : List (Int × List Int)} {ws vs : List (List Int)} {as : List Int} (h : (!rowsB vs rs) = true) : false = lextB ds rs ws as vs := by
  unfold lextB
  rw [show rowsB vs rs = false by simpa using h]
  rfl
theorem lext_no2 {ds : List Int} {rs : List (Int × List Int)} {ws vs : List (List Int)} {as : List Int} {i : Nat} {x : Int × List Int} (hx : (enum vs)[i]? = some x) (h : lextBad ws as x = true) : false = lextB ds rs ws as vs := by
  unfold lextB
  rw [eq_comm, Bool.eq_false_iff]
  intro h'
  have := List.all_eq_true.mp (Bool.and_eq_true_iff.mp (Bool.and_eq_true_iff.mp h').2).1 x (List.mem_of_getElem? hx)
  rw [h] at this
  cases this
theorem lext_yes {ds : List Int} {rs : List (Int × List Int)} {ws vs : List (List Int)} {as : List Int} (h1 : (!rowsB vs rs) = false) (h : ∀ x ∈ enum vs, lextBad ws as x = false) : decide (timesE vs (ds.length : Nat) = keptL ds ws as) = lextB ds rs ws as vs := by
  unfold lextB
  rw [show rowsB vs rs = true by simpa using h1, show (enum vs).all (fun p => !lextBad ws as p) = true from List.all_eq_true.mpr fun x hx => by rw [h x hx]; rfl]
  rfl
theorem zip_iota {α : Type} (g : Int → α) (ds : List Int) : ds.zip ((iota (ds.length : Nat)).map g) = (iota (ds.length : Nat)).map fun z => (at_ ds z, g z) := by
  refine List.ext_getElem (by simp [iota_len]) fun i h1 h2 => ?_
  rw [List.getElem_zip, List.getElem_map, List.getElem_map]
  have hi : i < ds.length := by have := h1; rw [List.length_zip] at this; omega
  have e : (iota (ds.length : Nat))[i]'(by rw [iota_len]; omega) = (i : Int) := by
    obtain ⟨e, _⟩ := iota_at (List.getElem?_eq_getElem (show i < (iota (ds.length : Nat)).length by rw [iota_len]; omega))
    exact e
  rw [e, at_eq (List.getElem?_eq_getElem hi)]
theorem here_cnt (as : List Int) (x : Int) : ∀ L : List (Int × List Int), cntW ((L.filter fun p => !decide (p.1 ∈ as)).map fun p => p.2) x = cntW (L.map fun p => if decide (p.1 ∈ as) = true then [] else p.2) x
  | [] => rfl
  | p :: L => by
    have ih := here_cnt as x L
    rw [List.map_cons, cntW_cons]
    by_cases h : p.1 ∈ as
    · rw [List.filter_cons_of_neg (by simp [h]), if_pos (decide_eq_true h), ih]
      unfold one_
      rw [if_neg (by simp)]
      omega
    · rw [List.filter_cons_of_pos (by simp [h]), if_neg (by simp [h]), List.map_cons, cntW_cons, ih]
theorem kept_eq (ds : List Int) (ws : List (List Int)) (as : List Int) : keptL ds ws as = (iota (ds.length : Nat)).map fun z => max (at_ ds z) (cntW (withB ws as) z) := by
  unfold keptL timesE
  rw [zip_iota, List.map_map]
  refine List.map_congr_left fun z _ => ?_
  show (if cntW (((enum ws).filter fun p => !decide (p.1 ∈ as)).map fun p => p.2) z > at_ ds z then cntW (((enum ws).filter fun p => !decide (p.1 ∈ as)).map fun p => p.2) z else at_ ds z) = _
  rw [here_cnt]
  show (if cntW (withB ws as) z > at_ ds z then cntW (withB ws as) z else at_ ds z) = _
  split <;> omega
theorem pres_with {b : Bk} {ws : List (List Int)} {as : List Int} (hl : ws.length = b.rs.length) : ((presB b as).map fun r => at_ ws r) = (presB b as).map fun r => at_ (withB ws as) r := List.map_congr_left fun r hr => by
  obtain ⟨h1, h2⟩ := presB_mem.mp hr
  rw [with_at (by rw [hl]; exact h1), if_neg h2]
theorem tread_with {b : Bk} {ws : List (List Int)} {as : List Int} (ok : DsOk b.ds b.rs) (hws : RowsOk b ws) : treadB b ws as = (iota b.ds.length).map fun z => cntW (withB ws as) z := by
  have E := with_st (as := as) ok hws
  unfold treadB
  refine List.map_congr_left fun z _ => ?_
  rw [pres_with hws.1, cntW_pres E.ok.1 E.abs]
theorem ext_law {b : Bk} {ws f : List (List Int)} {as : List Int} (ok : DsOk b.ds b.rs) (hws : RowsOk b ws) (E : ExtSt b (withB ws as) as f) (hc : ∀ z : Int, 0 ≤ z ∧ z < b.ds.length → cntW f z = max (at_ b.ds z) (cntW (withB ws as) z)) :
    lextB b.ds b.rs ws as f = true ∧ extendsB b ws as f = true := by
  have hl : f.length = ws.length := by have := E.ok.1; have := hws.1; omega
  have ht : ∀ z ∈ iota (b.ds.length : Nat), cntW f z = max (at_ b.ds z) (cntW (withB ws as) z) := fun z hz => hc z (iota_mem.mp hz)
  have hrow : ∀ p ∈ enum f, (p.1 ∈ as → p.2 = []) ∧ (p.1 ∉ as → ∀ x ∈ at_ ws p.1, x ∈ p.2) := fun p hp => by
    obtain ⟨i, hi⟩ := List.mem_iff_getElem?.mp hp
    obtain ⟨e1, e2⟩ := enum_at hi
    have hi := (List.getElem?_eq_some_iff.mp e2).1
    have e3 := at_eq e2
    have hr : 0 ≤ p.1 ∧ p.1 < f.length := by omega
    rw [← e1] at e3
    refine ⟨fun h => ?_, fun h x hx => ?_⟩
    · rw [← e3]
      exact E.abs p.1 hr h
    · rw [← e3]
      refine E.sub p.1 hr x ?_
      rw [with_at (by rw [← hl]; exact hr), if_neg h]
      exact hx
  constructor
  · unfold lextB
    rw [E.ok.rowsB, Bool.true_and, Bool.and_eq_true_iff]
    refine ⟨List.all_eq_true.mpr fun p hp => ?_, decide_eq_true ?_⟩
    · obtain ⟨h1, h2⟩ := hrow p hp
      unfold lextBad
      by_cases h : p.1 ∈ as
      · rw [decide_eq_true h, decide_eq_true (h1 h)]
        rfl
      · rw [decide_eq_false h, List.filter_eq_nil_iff.mpr fun x hx => by simp [h2 h x hx]]
        rfl
    · rw [kept_eq]
      exact List.map_congr_left ht
  · unfold extendsB
    rw [E.ok.rowsB, Bool.true_and, Bool.and_eq_true_iff]
    refine ⟨List.all_eq_true.mpr fun p hp => ?_, decide_eq_true ?_⟩
    · obtain ⟨h1, h2⟩ := hrow p hp
      unfold ctnBad
      by_cases h : p.1 ∈ as
      · rw [if_pos h, h1 h]
        rfl
      · rw [if_neg h, List.all_eq_true.mpr fun x hx => decide_eq_true (h2 h x hx)]
        rfl
    · unfold mxL
      rw [tread_with ok hws, zip_iota, List.map_map]
      unfold treadB
      refine List.map_congr_left fun z hz => ?_
      rw [cntW_pres E.ok.1 E.abs, ht z hz]
      show _ = (if cntW (withB ws as) z > at_ b.ds z then cntW (withB ws as) z else at_ b.ds z)
      split <;> omega
/-- a short set by the law's own counts -/
def lshortB (ds : List Int) (rs : List (Int × List Int)) (ws : List (List Int)) (as l : List Int) : Bool := decide (0 < wantL ds l - ((presL rs as).map fun r => cnt1 (at_ rs r) (at_ ws r) l).sum)
theorem lack_eq {b : Bk} {ws : List (List Int)} {as l : List Int} (ok : DsOk b.ds b.rs) (hws : RowsOk b ws) (hl : l.Pairwise (· < ·)) : ((presL b.rs as).map fun r => cnt1 (at_ b.rs r) (at_ ws r) l) = (presB b as).map fun r => cnt2 (at_ b.rs r) (at_ ws r) l := List.map_congr_left fun r hr => by
  obtain ⟨h1, h2⟩ := presL_mem.mp hr
  exact cnt_eq (hws.2 r (by rw [hws.1]; exact h1)) (ok.ok _ (at_mem h1)).2.2.1 hl
theorem short_law {b : Bk} {ws : List (List Int)} {as l : List Int} (ok : DsOk b.ds b.rs) (hws : RowsOk b ws) (hl : l.Pairwise (· < ·)) : lshortB b.ds b.rs ws as l = shortB b ws as l := by
  unfold lshortB shortB
  rw [lack_eq ok hws hl]
  by_cases h : ((presB b as).map fun r => cnt2 (at_ b.rs r) (at_ ws r) l).sum < wantL b.ds l
  · rw [decide_eq_true h, decide_eq_true (by omega)]
  · rw [decide_eq_false h, decide_eq_false (by omega)]
theorem set_law {n : Nat} {l : List Int} (h : l ∈ allSets n) : setL n l = true ∧ l.length ≤ n := by
  obtain ⟨h1, h2, h3⟩ := allSets_mem.mp h
  have hp : 0 < l.length := List.length_pos_iff.mpr h1
  refine ⟨?_, nd_len (nodup_asc h2) h3⟩
  unfold setL
  rw [decide_eq_true h1, decide_eq_true h2, decide_eq_true (h3 _ (at_mem ⟨by omega, by omega⟩)).1, decide_eq_true (h3 _ (at_mem ⟨by omega, by omega⟩)).2]
  rfl
/-- what extension tells, whole -/
theorem ext_right {b : Bk} {ws : List (List Int)} {as : List Int} (ok : DsOk b.ds b.rs) (hws : RowsOk b ws) : match extB b ws as with
    | .inl f => (∀ l ∈ allSets b.ds.length, shortB b ws as l = false) ∧ ExtSt b (withB ws as) as f ∧ ∀ z : Int, 0 ≤ z ∧ z < b.ds.length → cntW f z = max (at_ b.ds z) (cntW (withB ws as) z)
    | .inr l => l ∈ allSets b.ds.length ∧ shortB b ws as l = true := by
  unfold extB
  cases h : (allSets b.ds.length).find? fun l => shortB b ws as l with
  | none =>
    have hns : ∀ l ∈ allSets b.ds.length, shortB b ws as l = false := fun l hl => by
      have := List.find?_eq_none.mp h l hl
      simpa using this
    exact ⟨hns, extended_right ok hws hns⟩
  | some l => exact ⟨List.mem_of_find?_eq_some h, by have := List.find?_some h; exact this⟩
/-- good rows are good -/
theorem good_of {b : Bk} {f : List (List Int)} {as : List Int} (ok : DsOk b.ds b.rs) (E : ExtSt b (withB (noRowsB b) as) as f) (hc : ∀ z : Int, 0 ≤ z ∧ z < b.ds.length → cntW f z = max (at_ b.ds z) (cntW (withB (noRowsB b) as) z)) : treadB b f [] = b.ds := by
  have e0 : ∀ z : Int, cntW (withB (noRowsB b) as) z = 0 := fun z => by
    have h0 : ∀ w ∈ withB (noRowsB b) as, w = [] := fun w hw => by
      unfold withB at hw
      obtain ⟨p, hp, rfl⟩ := List.mem_map.mp hw
      obtain ⟨i, hi⟩ := List.mem_iff_getElem?.mp hp
      have e2 := (enum_at hi).2
      have m := List.mem_of_getElem? e2
      unfold noRowsB at m
      obtain ⟨_, _, e⟩ := List.mem_map.mp m
      split
      · rfl
      · exact e.symm
    unfold cntW
    rw [List.filter_eq_nil_iff.mpr fun w hw => by rw [h0 w hw]; simp]
    rfl
  unfold treadB
  refine List.ext_getElem (by simp [iota_len]) fun i h1 h2 => ?_
  rw [List.getElem_map]
  have e : (iota (b.ds.length : Nat))[i]'(by rw [iota_len]; omega) = (i : Int) := by
    obtain ⟨e, _⟩ := iota_at (List.getElem?_eq_getElem (show i < (iota (b.ds.length : Nat)).length by rw [iota_len]; omega))
    exact e
  rw [e, cntW_pres E.ok.1 (fun r _ hm => absurd hm (by simp)), hc _ (by omega), e0]
  have hm := at_mem (l := b.ds) (i := (i : Int)) (by omega)
  have hd := (ok.d6 _ hm).1
  rw [at_eq (List.getElem?_eq_getElem h2)] at hd ⊢
  omega
end Ew
namespace Ew
open PySem PySem.Spec PyProof.Rows L2
/-! ### all ascending tuples of some things -/
def setsOne (ts one : List Int) : List (List Int) := (ts.filter fun y => decide (one = []) || decide (at_ one ((one.length : Int) - 1) < y)).map fun y => one ++ [y]
def lastF (ts : List Int) : Nat → List (List Int)
  | 0 => [[]]
  | k + 1 => (lastF ts k).flatMap (setsOne ts)
def lsetsF (ts : List Int) : Nat → List (List Int)
  | 0 => [[]]
  | k + 1 => lsetsF ts k ++ lastF ts (k + 1)
def lsets (ts : List Int) : List (List Int) := lsetsF ts ts.length
theorem lt_ne {l : List Int} (h : decide (l = []) = false) : 0 < l.length := List.length_pos_iff.mpr (of_decide_eq_false h)
theorem one_bd (ts one : List Int) : (setsOne ts one).length ≤ ts.length := by
  unfold setsOne
  rw [List.length_map]
  exact List.length_filter_le _ _
theorem flat_bd {ts : List Int} : ∀ l : List (List Int), (l.flatMap (setsOne ts)).length ≤ l.length * ts.length
  | [] => by simp
  | a :: l => by
    rw [List.flatMap_cons, List.length_append, List.length_cons, Nat.succ_mul]
    have := flat_bd (ts := ts) l
    have := one_bd ts a
    omega
theorem last_bd {ts : List Int} (h : ts.length ≤ 6) : ∀ k, (lastF ts k).length ≤ 6 ^ k
  | 0 => Nat.le_refl _
  | k + 1 => by
    have h1 := last_bd h k
    have h2 := flat_bd (ts := ts) (lastF ts k)
    have h3 : (lastF ts k).length * ts.length ≤ 6 ^ k * 6 := Nat.mul_le_mul h1 h
    rw [Nat.pow_succ]
    exact Nat.le_trans h2 h3
theorem found_bd {ts : List Int} (h : ts.length ≤ 6) : ∀ k, (lsetsF ts k).length ≤ 7 ^ k
  | 0 => Nat.le_refl _
  | k + 1 => by
    have h1 := found_bd h k
    have h2 := last_bd h (k + 1)
    have h3 : 6 ^ k ≤ 7 ^ k := Nat.pow_le_pow_left (by decide) k
    rw [lsetsF, List.length_append, Nat.pow_succ]
    rw [Nat.pow_succ] at h2
    omega
theorem last_cap {ts : List Int} (h : ts.length ≤ 6) {i : Nat} (hi : i < 6) : (lastF ts i).length * 6 ≤ 46656 ∧ (lastF ts (i + 1)).length ≤ 46656 := by
  have h1 := last_bd h i
  have h2 := last_bd h (i + 1)
  have h3 : 6 ^ i ≤ 6 ^ 5 := Nat.pow_le_pow_right (by decide) (by omega)
  have h4 : 6 ^ (i + 1) ≤ 6 ^ 6 := Nat.pow_le_pow_right (by decide) (by omega)
  have e5 : (6 : Nat) ^ 5 = 7776 := by decide
  have e6 : (6 : Nat) ^ 6 = 46656 := by decide
  omega
theorem found_cap {ts : List Int} (h : ts.length ≤ 6) {i : Nat} (hi : i ≤ 6) : (lsetsF ts i).length ≤ 117649 := by
  have h1 := found_bd h i
  have h3 : 7 ^ i ≤ 7 ^ 6 := Nat.pow_le_pow_right (by decide) hi
  have e6 : (7 : Nat) ^ 6 = 117649 := by decide
  omega
theorem take_bd {ts : List Int} (h : ts.length ≤ 6) (i j : Nat) : (((lastF ts i).take j).flatMap (setsOne ts)).length ≤ (lastF ts i).length * 6 := by
  have h1 := flat_bd (ts := ts) ((lastF ts i).take j)
  have h2 : ((lastF ts i).take j).length ≤ (lastF ts i).length := by rw [List.length_take]; omega
  have h3 := Nat.mul_le_mul h2 h
  omega
theorem last_at {l : List Int} {x : Int} : at_ (l ++ [x]) (((l ++ [x]).length : Int) - 1) = x := by
  rw [List.length_append, List.length_singleton, show (((l.length + 1 : Nat) : Int) - 1) = ((l.length : Nat) : Int) by omega]
  exact at_eq (by simp)
theorem snoc_of {l : List Int} {k : Nat} (h : l.length = k + 1) : ∃ m x, l = m ++ [x] ∧ m.length = k := by
  refine ⟨l.dropLast, l.getLast (fun e => by rw [e] at h; cases h), (List.dropLast_concat_getLast _).symm, ?_⟩
  rw [List.length_dropLast]
  omega
theorem up_snoc {m : List Int} {x : Int} : (m ++ [x]).Pairwise (· < ·) ↔ m.Pairwise (· < ·) ∧ (m = [] ∨ at_ m ((m.length : Int) - 1) < x) := by
  rw [List.pairwise_append]
  constructor
  · rintro ⟨h1, _, h3⟩
    refine ⟨h1, ?_⟩
    by_cases e : m = []
    · exact .inl e
    · have hp : 0 < m.length := List.length_pos_iff.mpr e
      exact .inr (h3 _ (at_mem (l := m) ⟨by omega, by omega⟩) x (by simp))
  · rintro ⟨h1, h2⟩
    refine ⟨h1, List.pairwise_singleton _ _, fun a ha y hy => ?_⟩
    rw [List.mem_singleton.mp hy]
    rcases h2 with rfl | h2
    · cases ha
    · obtain ⟨k, hk⟩ : ∃ k, m.length = k + 1 := ⟨m.length - 1, by have := List.length_pos_of_mem ha; omega⟩
      obtain ⟨n, z, rfl, _⟩ := snoc_of hk
      rw [last_at] at h2
      rcases List.mem_append.mp ha with ha | ha
      · have := (List.pairwise_append.mp h1).2.2 a ha z (by simp)
        omega
      · rw [List.mem_singleton.mp ha]
        exact h2
theorem last_mem {ts : List Int} : ∀ {k : Nat} {l : List Int}, l ∈ lastF ts k ↔ l.length = k ∧ l.Pairwise (· < ·) ∧ ∀ x ∈ l, x ∈ ts
  | 0, l => by
    rw [lastF, List.mem_singleton]
    constructor
    · rintro rfl
      exact ⟨rfl, .nil, fun x hx => nomatch hx⟩
    · rintro ⟨h, _⟩
      exact List.length_eq_zero_iff.mp h
  | k + 1, l => by
    rw [lastF, List.mem_flatMap]
    constructor
    · rintro ⟨one, h1, h2⟩
      obtain ⟨a1, a2, a3⟩ := last_mem.mp h1
      unfold setsOne at h2
      obtain ⟨y, hy, rfl⟩ := List.mem_map.mp h2
      obtain ⟨y1, y2⟩ := List.mem_filter.mp hy
      rw [Bool.or_eq_true_iff, decide_eq_true_eq, decide_eq_true_eq] at y2
      refine ⟨by rw [List.length_append, a1]; rfl, up_snoc.mpr ⟨a2, y2⟩, fun x hx => ?_⟩
      rcases List.mem_append.mp hx with hx | hx
      · exact a3 x hx
      · rw [List.mem_singleton.mp hx]
        exact y1
    · rintro ⟨h1, h2, h3⟩
      obtain ⟨m, x, rfl, hm⟩ := snoc_of h1
      obtain ⟨u1, u2⟩ := up_snoc.mp h2
      refine ⟨m, last_mem.mpr ⟨hm, u1, fun y hy => h3 y (by simp [hy])⟩, ?_⟩
      unfold setsOne
      refine List.mem_map.mpr ⟨x, List.mem_filter.mpr ⟨h3 x (by simp), ?_⟩, rfl⟩
      rw [Bool.or_eq_true_iff, decide_eq_true_eq, decide_eq_true_eq]
      exact u2
theorem lsetsF_mem {ts : List Int} : ∀ {k : Nat} {l : List Int}, l ∈ lsetsF ts k ↔ l.length ≤ k ∧ l.Pairwise (· < ·) ∧ ∀ x ∈ l, x ∈ ts
  | 0, l => by
    show l ∈ lastF ts 0 ↔ _
    rw [last_mem]
    constructor
    · rintro ⟨h, r⟩; exact ⟨by omega, r⟩
    · rintro ⟨h, r⟩; exact ⟨by omega, r⟩
  | k + 1, l => by
    rw [lsetsF, List.mem_append, lsetsF_mem, last_mem]
    constructor
    · rintro (⟨h, r⟩ | ⟨h, r⟩)
      · exact ⟨by omega, r⟩
      · exact ⟨by omega, r⟩
    · rintro ⟨h, r⟩
      rcases Nat.lt_or_ge l.length (k + 1) with g | g
      · exact .inl ⟨by omega, r⟩
      · exact .inr ⟨by omega, r⟩
theorem lsets_mem {ts l : List Int} : l ∈ lsets ts ↔ l.Pairwise (· < ·) ∧ ∀ x ∈ l, x ∈ ts := by
  unfold lsets
  rw [lsetsF_mem]
  exact ⟨fun h => h.2, fun h => ⟨sub_len (nodup_asc h.1) h.2, h⟩⟩
section
variable {P : Program} {w : World} {K : PySem.W.Frag} {mg : Str → Option Value} {base : Heap} {C : Addr}
def sp__law_sets (K : PySem.W.Frag) (C : Addr) : Sp := spN (K := K) (C := C) (aC (kL kI) aN) (kL (kT kI)) (fun a => a.1.length ≤ 6) fun a => lsets a.1
end
end Ew
namespace Ew
open PySem PySem.Spec PyProof.Rows L2
/-! ### the law's own greatest borne number -/
theorem asc_unique : ∀ {a b : List Int}, a.Pairwise (· ≤ ·) → b.Pairwise (· ≤ ·) → a.Perm b → a = b
  | [], b, _, _, p => (List.nil_perm.mp p).symm ▸ rfl
  | x :: xs, [], _, _, p => absurd p.length_eq (by simp)
  | x :: xs, y :: ys, ha, hb, p => by
    have ha' := List.pairwise_cons.mp ha
    have hb' := List.pairwise_cons.mp hb
    have h1 : y ≤ x := by
      rcases List.mem_cons.mp (p.mem_iff.mp (by simp) : x ∈ y :: ys) with h | h
      · omega
      · exact hb'.1 x h
    have h2 : x ≤ y := by
      rcases List.mem_cons.mp (p.mem_iff.mpr (by simp) : y ∈ x :: xs) with h | h
      · omega
      · exact ha'.1 y h
    have e : x = y := by omega
    subst e
    rw [asc_unique ha'.2 hb'.2 (List.Perm.cons_inv p)]
/-- the counts of the present readers, ascending -/
def cntsB (ds : List Int) (rs : List (Int × List Int)) (ws : List (List Int)) (as l : List Int) : List Int := srt ((presL rs as).map fun r => cnt1 (at_ rs r) (at_ ws r) l)
def inB (c : List Int) (w : Int) (n : Int) : List Int → Int → Int
  | [], m => m
  | z :: zs, m => inB c w n zs (if (c.take (n - z).toNat).sum < w then (if z - 1 < m then z - 1 else m) else m)
def oB (ds : List Int) (rs : List (Int × List Int)) (ws : List (List Int)) (as : List Int) : List (List Int) → Int → Int
  | [], m => m
  | l :: ls, m => oB ds rs ws as ls (inB (cntsB ds rs ws as l) (wantL ds l) ((presL rs as).length : Nat) (iota (((presL rs as).length : Nat) + 1)) m)
def lborneB (ds : List Int) (rs : List (Int × List Int)) (ws : List (List Int)) (as : List Int) : Int := oB ds rs ws as ((lsets (iota (ds.length : Nat))).drop 1) ((presL rs as).length : Nat)
theorem inB_snoc {c : List Int} {w n z : Int} : ∀ {zs : List Int} {m : Int}, inB c w n (zs ++ [z]) m = if (c.take (n - z).toNat).sum < w then (if z - 1 < inB c w n zs m then z - 1 else inB c w n zs m) else inB c w n zs m
  | [], m => rfl
  | _ :: zs, m => inB_snoc (zs := zs)
theorem oB_snoc {ds : List Int} {rs : List (Int × List Int)} {ws : List (List Int)} {as l : List Int} : ∀ {ls : List (List Int)} {m : Int}, oB ds rs ws as (ls ++ [l]) m = inB (cntsB ds rs ws as l) (wantL ds l) ((presL rs as).length : Nat) (iota (((presL rs as).length : Nat) + 1)) (oB ds rs ws as ls m)
  | [], m => rfl
  | _ :: ls, m => oB_snoc (ls := ls)
theorem inB_ge {c : List Int} {w n x : Int} : ∀ {zs : List Int} {m : Int}, x ≤ m → (∀ z ∈ zs, (c.take (n - z).toNat).sum < w → x ≤ z - 1) → x ≤ inB c w n zs m
  | [], m, h, _ => h
  | z :: zs, m, h, g => by
    unfold inB
    refine inB_ge ?_ fun y hy => g y (List.mem_cons_of_mem _ hy)
    by_cases hb : (c.take (n - z).toNat).sum < w
    · rw [if_pos hb]
      have := g z (by simp) hb
      split <;> omega
    · rw [if_neg hb]
      exact h
theorem inB_le_init {c : List Int} {w n : Int} : ∀ {zs : List Int} {m : Int}, inB c w n zs m ≤ m
  | [], m => Int.le_refl _
  | z :: zs, m => by
    unfold inB
    refine Int.le_trans inB_le_init ?_
    split
    · split <;> omega
    · omega
theorem inB_le {c : List Int} {w n z : Int} : ∀ {zs : List Int} {m : Int}, z ∈ zs → (c.take (n - z).toNat).sum < w → inB c w n zs m ≤ z - 1
  | y :: zs, m, h, hb => by
    rcases List.mem_cons.mp h with rfl | h
    · unfold inB
      rw [if_pos hb]
      refine Int.le_trans inB_le_init ?_
      split <;> omega
    · unfold inB
      exact inB_le h hb
section
variable {ds : List Int} {rs : List (Int × List Int)} {ws : List (List Int)} {as : List Int}
theorem oB_ge {x : Int} : ∀ {ls : List (List Int)} {m : Int}, x ≤ m → (∀ l ∈ ls, ∀ z ∈ iota (((presL rs as).length : Nat) + 1), ((cntsB ds rs ws as l).take (((presL rs as).length : Nat) - z).toNat).sum < wantL ds l → x ≤ z - 1) → x ≤ oB ds rs ws as ls m
  | [], m, h, _ => h
  | l :: ls, m, h, g => by
    unfold oB
    exact oB_ge (inB_ge h (g l (by simp))) fun y hy => g y (List.mem_cons_of_mem _ hy)
theorem oB_le_init : ∀ {ls : List (List Int)} {m : Int}, oB ds rs ws as ls m ≤ m
  | [], m => Int.le_refl _
  | l :: ls, m => by
    unfold oB
    exact Int.le_trans oB_le_init inB_le_init
theorem oB_le {l : List Int} {z : Int} : ∀ {ls : List (List Int)} {m : Int}, l ∈ ls → z ∈ iota (((presL rs as).length : Nat) + 1) → ((cntsB ds rs ws as l).take (((presL rs as).length : Nat) - z).toNat).sum < wantL ds l → oB ds rs ws as ls m ≤ z - 1
  | y :: ls, m, h, hz, hb => by
    unfold oB
    rcases List.mem_cons.mp h with rfl | h
    · exact Int.le_trans oB_le_init (inB_le hz hb)
    · exact oB_le h hz hb
end
theorem lsetsF_tail {ts : List Int} : ∀ k, ∃ r, lsetsF ts k = [] :: r ∧ ∀ l ∈ r, l ≠ []
  | 0 => ⟨[], rfl, fun _ h => nomatch h⟩
  | k + 1 => by
    obtain ⟨r, e, h⟩ := lsetsF_tail (ts := ts) k
    refine ⟨r ++ lastF ts (k + 1), by rw [lsetsF, e]; rfl, fun l hl => ?_⟩
    rcases List.mem_append.mp hl with hl | hl
    · exact h l hl
    · intro e0
      have := (last_mem.mp hl).1
      rw [e0] at this
      cases this
theorem lsets_drop {n : Nat} {l : List Int} : l ∈ (lsets (iota (n : Nat))).drop 1 ↔ l ∈ allSets n := by
  obtain ⟨r, e, h⟩ := lsetsF_tail (ts := iota (n : Nat)) (iota (n : Nat)).length
  have e' : lsets (iota (n : Nat)) = [] :: r := e
  have hm : l ∈ lsets (iota (n : Nat)) ↔ l.Pairwise (· < ·) ∧ ∀ x ∈ l, x ∈ iota (n : Nat) := lsets_mem
  rw [e'] at hm ⊢
  rw [List.drop_succ_cons, List.drop_zero, allSets_mem]
  constructor
  · intro hl
    have := hm.mp (List.mem_cons_of_mem _ hl)
    exact ⟨h l hl, this.1, fun x hx => iota_mem.mp (this.2 x hx)⟩
  · rintro ⟨h1, h2, h3⟩
    rcases List.mem_cons.mp (hm.mpr ⟨h2, fun x hx => iota_mem.mpr (h3 x hx)⟩) with e0 | e0
    · exact absurd e0 h1
    · exact e0
theorem take_rev_sum : ∀ (L : List Int) (m : Nat), (L.reverse.take (L.length - m)).sum = L.sum - (L.take m).sum
  | L, m => by
    have e : L = L.take m ++ L.drop m := (List.take_append_drop m L).symm
    have e2 : (L.take m ++ L.drop m).reverse = (L.drop m).reverse ++ (L.take m).reverse := List.reverse_append
    have e3 : L.reverse = (L.drop m).reverse ++ (L.take m).reverse := by rw [← e2, ← e]
    have hl : (L.drop m).reverse.length = L.length - m := by rw [List.length_reverse, List.length_drop]
    rw [e3, List.take_append_of_le_length (by omega), ← hl, List.take_length, List.sum_reverse]
    have : L.sum = (L.take m).sum + (L.drop m).sum := by rw [← List.sum_append, ← e]
    omega
theorem fs_take (L : List (Int × Int)) (m : Nat) : ((L.map fun p => p.1).take m).sum = fs (L.take m) := by
  unfold fs
  rw [List.map_take]
section
variable {b : Bk} {ws : List (List Int)} {as l : List Int}
theorem cnts_rev (ok : DsOk b.ds b.rs) (hws : RowsOk b ws) (hl : l.Pairwise (· < ·)) : cntsB b.ds b.rs ws as l = ((srtP (countsB b ws as l)).map fun p => p.1).reverse := by
  refine asc_unique (srt_up _) ?_ ?_
  · rw [List.pairwise_reverse]
    rw [List.pairwise_map]
    exact sort_fst
  · refine (srt_perm _).trans ?_
    rw [lack_eq ok hws hl]
    refine List.Perm.trans ?_ (List.reverse_perm _).symm
    have e : ((presB b as).map fun r => cnt2 (at_ b.rs r) (at_ ws r) l) = (countsB b ws as l).map fun p => p.1 := by
      unfold countsB
      rw [List.map_map]
      rfl
    rw [e]
    exact ((srtP_perm _).map _).symm
theorem cnts_sum (ok : DsOk b.ds b.rs) (hws : RowsOk b ws) (hl : l.Pairwise (· < ·)) (m : Nat) (hm : m ≤ (presB b as).length) :
    ((cntsB b.ds b.rs ws as l).take (((presL b.rs as).length : Nat) - (m : Int)).toNat).sum = fs (srtP (countsB b ws as l)) - fs ((srtP (countsB b ws as l)).take m) := by
  have hlen : ((srtP (countsB b ws as l)).map fun p => p.1).length = (presL b.rs as).length := by
    rw [List.length_map, srtP_len]
    unfold countsB
    rw [List.length_map]
    rfl
  rw [cnts_rev ok hws hl, show (((presL b.rs as).length : Nat) - (m : Int)).toNat = ((srtP (countsB b ws as l)).map fun p => p.1).length - m by rw [hlen]; omega, take_rev_sum, fs_take]
  rfl
/-- a dropping of the m that count most is short, if any of m is -/
theorem drop_top (m : Nat) (hm : m ≤ (presB b as).length) : ∃ e : List Int, e.Nodup ∧ (∀ r ∈ e, r ∈ presB b as) ∧ e.length = m ∧ (fs (srtP (countsB b ws as l)) - fs ((srtP (countsB b ws as l)).take m) < wantL b.ds l → shortB b ws (srt (as ++ e)) l = true) := by
  have hlen : (srtP (countsB b ws as l)).length = (presB b as).length := by
    rw [srtP_len]
    unfold countsB
    rw [List.length_map]
  refine ⟨((srtP (countsB b ws as l)).take m).map fun p => p.2, sort_nd.sublist ((List.take_sublist m _).map _), fun r hr => (sort_snd (ws := ws) (l := l)).mem_iff.mp (((List.take_sublist m _).map (fun p : Int × Int => p.2)).subset hr), by rw [List.length_map, List.length_take]; omega, fun h => ?_⟩
  rw [short_iff, filter_take m sort_nd m]
  exact h
theorem short_top {e : List Int} (nd : e.Nodup) (hs : ∀ r ∈ e, r ∈ presB b as) (hsh : shortB b ws (srt (as ++ e)) l = true) : fs (srtP (countsB b ws as l)) - fs ((srtP (countsB b ws as l)).take e.length) < wantL b.ds l := by
  have h := short_iff.mp hsh
  have hle : ((srtP (countsB b ws as l)).filter fun p => decide (p.2 ∈ e)).length = e.length := by
    have h1 : (((srtP (countsB b ws as l)).filter fun p => decide (p.2 ∈ e)).map fun p => p.2).length = e.length := nodup_same (sort_nd.sublist (List.filter_sublist.map _)) nd fun z => by
      constructor
      · intro hz
        obtain ⟨p, hp, rfl⟩ := List.mem_map.mp hz
        exact of_decide_eq_true (List.mem_filter.mp hp).2
      · intro hz
        obtain ⟨p, hp, rfl⟩ := List.mem_map.mp (sort_snd.mem_iff.mpr (hs z hz) : z ∈ (srtP (countsB b ws as l)).map fun p => p.2)
        exact List.mem_map.mpr ⟨p, List.mem_filter.mpr ⟨hp, decide_eq_true hz⟩, rfl⟩
    rw [List.length_map] at h1
    exact h1
  have ht := fs_top (List.filter_sublist (p := fun p => decide (p.2 ∈ e)) (l := srtP (countsB b ws as l))) sort_fst
  rw [hle] at ht
  omega
end
theorem lborne_right {b : Bk} {ws : List (List Int)} {as : List Int} (ok : DsOk b.ds b.rs) (hws : RowsOk b ws) : lborneB b.ds b.rs ws as = borneB b ws as := by
  obtain ⟨h1, h2, h3, h4⟩ := borne_spec (b := b) (ws := ws) (as := as)
  have e0 : (presL b.rs as).length = (presB b as).length := rfl
  unfold lborneB
  refine Int.le_antisymm ?_ ?_
  · rcases h2 with h2 | ⟨l, d, _, hl, hd, hs, hsh, hlen⟩
    · rw [h2]
      exact oB_le_init
    · have hdl : d.length ≤ (presB b as).length := sub_len (nodup_asc hd) hs
      have hk := short_top (nodup_asc hd) hs hsh
      rw [← cnts_sum ok hws (allSets_mem.mp hl).2.1 d.length hdl] at hk
      have := oB_le (m := ((presL b.rs as).length : Nat)) (lsets_drop.mpr hl) (iota_mem.mpr ⟨by omega, by rw [e0]; omega⟩ : ((d.length : Nat) : Int) ∈ iota _) hk
      omega
  · refine oB_ge (by rw [e0]; exact h4) fun l hl z hz hb => ?_
    have hl := lsets_drop.mp hl
    obtain ⟨z0, z1⟩ := iota_mem.mp hz
    obtain ⟨m, rfl⟩ : ∃ m : Nat, z = (m : Int) := ⟨z.toNat, by omega⟩
    have hm : m ≤ (presB b as).length := by omega
    rw [cnts_sum ok hws (allSets_mem.mp hl).2.1 m hm] at hb
    obtain ⟨e, e1, e2, e3, e4⟩ := drop_top (b := b) (ws := ws) (as := as) (l := l) m hm
    by_cases g : (m : Int) - 1 < borneB b ws as
    · have h5 := h1 e e1 e2 (by omega) l hl
      rw [e4 hb] at h5
      cases h5
    · omega
/-! ### reasons -/
theorem reason_spec {b : Bk} {ws : List (List Int)} {as : List Int} {n : Int} (hn : 0 ≤ n) : match reasonB b ws as n with
    | none => n ≤ borneB b ws as ∨ leastB b ws as = none
    | some (l, d) => borneB b ws as < n ∧ l ∈ allSets b.ds.length ∧ d.Pairwise (· < ·) ∧ (∀ r ∈ d, r ∈ presB b as) ∧ shortB b ws (srt (as ++ d)) l = true ∧ ((d.length : Nat) : Int) ≤ n := by
  have hl := least_spec (b := b) (ws := ws) (as := as)
  unfold reasonB
  cases hm : leastB b ws as with
  | none => exact .inr rfl
  | some me =>
    obtain ⟨l, d⟩ := me
    rw [hm] at hl
    obtain ⟨g1, g2, g3⟩ := hl
    have hf := few_spec (b := b) (ws := ws) (as := as) (l := l)
    rw [g2] at hf
    obtain ⟨f1, f2, f3, f4⟩ := hf
    have eb : borneB b ws as = ((d.length : Nat) : Int) - 1 := by
      unfold borneB
      rw [hm]
    dsimp only
    by_cases h : n < ((d.length : Nat) : Int)
    · rw [if_pos h]
      exact .inl (by omega)
    · rw [if_neg h]
      exact ⟨by omega, g1, f1, f2, f3, by omega⟩
end Ew
namespace Ew
open PySem PySem.Spec PyProof.Rows L2
/-! ### the greatest gain -/
def srtD (l : List Int) : List Int := (srt l).reverse
def topB (k : Int) (gs : List Int) : Int := (((srtD gs).take k.toNat).filter fun x => decide (0 < x)).sum
def gainB (b : Bk) (ws : List (List Int)) (r : Int) (q : List Int) : Int := topB (at_ b.rs r).1 ((at_ b.rs r).2.map fun z => worthB ws r z - at_ q z)
def boundB (b : Bk) (ws : List (List Int)) (as q : List Int) : Int := ((b.ds.zip q).map fun p => p.1 * p.2).sum + ((presB b as).map fun r => gainB b ws r q).sum
def pairsG (g : Int → Int) (may : List Int) : List (Int × Int) := srtP (may.map fun z => (g z, z))
theorem pairsG_perm (g : Int → Int) (may : List Int) : (pairsG g may).Perm (may.map fun z => (g z, z)) := srtP_perm _
theorem pairsG_at {g : Int → Int} {may : List Int} {p : Int × Int} (h : p ∈ pairsG g may) : p.2 ∈ may ∧ p.1 = g p.2 := by
  obtain ⟨z, hz, rfl⟩ := List.mem_map.mp ((pairsG_perm g may).mem_iff.mp h)
  exact ⟨hz, rfl⟩
theorem pairsG_down (g : Int → Int) (may : List Int) : (pairsG g may).Pairwise (fun x y => y.1 ≤ x.1) := (srtP_up _).imp fun h => by
  unfold geP at h
  omega
theorem pairsG_snd (g : Int → Int) (may : List Int) : ((pairsG g may).map fun p => p.2).Perm may := by
  have := (pairsG_perm g may).map (fun p : Int × Int => p.2)
  rw [List.map_map] at this
  rw [show ((fun p : Int × Int => p.2) ∘ fun z => (g z, z)) = fun z => z from rfl, List.map_id'] at this
  exact this
theorem pairsG_fst (g : Int → Int) (may : List Int) : ((pairsG g may).map fun p => p.1) = srtD (may.map g) := by
  have h : ((pairsG g may).map fun p => p.1).reverse = srt (may.map g) := by
    refine asc_unique ?_ (srt_up _) ?_
    · rw [List.pairwise_reverse, List.pairwise_map]
      exact pairsG_down g may
    · refine (List.reverse_perm _).trans (List.Perm.trans ?_ (srt_perm _).symm)
      have := (pairsG_perm g may).map (fun p : Int × Int => p.1)
      rw [List.map_map] at this
      exact this
  unfold srtD
  rw [← h, List.reverse_reverse]
theorem top_pairs (k : Int) (g : Int → Int) (may : List Int) : topB k (may.map g) = fs (((pairsG g may).take k.toNat).filter fun p => decide (0 < p.1)) := by
  unfold topB fs
  rw [← pairsG_fst, ← List.map_take, List.filter_map]
  rfl
theorem pos_le : ∀ L : List (Int × Int), fs L ≤ fs (L.filter fun p => decide (0 < p.1))
  | [] => Int.le_refl _
  | p :: L => by
    have ih := pos_le L
    rw [fs_cons]
    by_cases h : 0 < p.1
    · rw [List.filter_cons_of_pos (by simp [h]), fs_cons]
      omega
    · rw [List.filter_cons_of_neg (by simp [h])]
      omega
theorem pos_nonneg : ∀ L : List (Int × Int), 0 ≤ fs (L.filter fun p => decide (0 < p.1))
  | [] => Int.le_refl _
  | p :: L => by
    have ih := pos_nonneg L
    by_cases h : 0 < p.1
    · rw [List.filter_cons_of_pos (by simp [h]), fs_cons]
      omega
    · rw [List.filter_cons_of_neg (by simp [h])]
      exact ih
theorem pos_take {L : List (Int × Int)} {i k : Nat} (h : i ≤ k) : fs ((L.take i).filter fun p => decide (0 < p.1)) ≤ fs ((L.take k).filter fun p => decide (0 < p.1)) := by
  have e : L.take k = L.take i ++ (L.take k).drop i := by
    have := (List.take_append_drop i (L.take k)).symm
    rw [List.take_take, Nat.min_eq_left h] at this
    exact this
  rw [e, List.filter_append, fs_app]
  have := pos_nonneg ((L.take k).drop i)
  omega
/-- no lot gains more -/
theorem top_ge {k : Int} {g : Int → Int} {may M : List Int} (nd : may.Nodup) (hM : M.Nodup) (hs : ∀ z ∈ M, z ∈ may) (hl : (M.length : Int) ≤ k) : (M.map g).sum ≤ topB k (may.map g) := by
  have hnd : ((pairsG g may).map fun p => p.2).Nodup := (pairsG_snd g may).nodup_iff.mpr nd
  have hlen : ((pairsG g may).filter fun p => decide (p.2 ∈ M)).length = M.length := by
    have h1 : (((pairsG g may).filter fun p => decide (p.2 ∈ M)).map fun p => p.2).length = M.length := nodup_same (hnd.sublist (List.filter_sublist.map _)) hM fun z => by
      constructor
      · intro hz
        obtain ⟨p, hp, rfl⟩ := List.mem_map.mp hz
        exact of_decide_eq_true (List.mem_filter.mp hp).2
      · intro hz
        obtain ⟨p, hp, rfl⟩ := List.mem_map.mp ((pairsG_snd g may).mem_iff.mpr (hs z hz))
        exact List.mem_map.mpr ⟨p, List.mem_filter.mpr ⟨hp, decide_eq_true hz⟩, rfl⟩
    rw [List.length_map] at h1
    exact h1
  have hsum : fs ((pairsG g may).filter fun p => decide (p.2 ∈ M)) = (M.map g).sum := by
    have e : ((pairsG g may).filter fun p => decide (p.2 ∈ M)).map (fun p => p.1) = (((pairsG g may).filter fun p => decide (p.2 ∈ M)).map fun p => p.2).map g := by
      rw [List.map_map]
      exact List.map_congr_left fun p hp => (pairsG_at (List.mem_filter.mp hp).1).2
    unfold fs
    rw [e]
    refine perm_sum (List.Perm.map g ?_)
    refine (List.perm_ext_iff_of_nodup (hnd.sublist (List.filter_sublist.map _)) hM).mpr fun z => ?_
    constructor
    · intro hz
      obtain ⟨p, hp, rfl⟩ := List.mem_map.mp hz
      exact of_decide_eq_true (List.mem_filter.mp hp).2
    · intro hz
      obtain ⟨p, hp, rfl⟩ := List.mem_map.mp ((pairsG_snd g may).mem_iff.mpr (hs z hz))
      exact List.mem_map.mpr ⟨p, List.mem_filter.mpr ⟨hp, decide_eq_true hz⟩, rfl⟩
  rw [top_pairs, ← hsum]
  have h1 := fs_top (List.filter_sublist (p := fun p => decide (p.2 ∈ M)) (l := pairsG g may)) (pairsG_down g may)
  rw [hlen] at h1
  have h2 := pos_le ((pairsG g may).take M.length)
  have h3 := pos_take (L := pairsG g may) (i := M.length) (k := k.toNat) (by omega)
  omega
/-- some lot gains as much -/
theorem top_lot (k : Int) (hk : 0 ≤ k) (g : Int → Int) {may : List Int} (nd : may.Nodup) : ∃ M : List Int, M.Pairwise (· < ·) ∧ (∀ z ∈ M, z ∈ may) ∧ (M.length : Int) ≤ k ∧ (M.map g).sum = topB k (may.map g) := by
  have hnd : ((pairsG g may).map fun p => p.2).Nodup := (pairsG_snd g may).nodup_iff.mpr nd
  have hsub : (((pairsG g may).take k.toNat).filter fun p => decide (0 < p.1)).Sublist (pairsG g may) := List.filter_sublist.trans (List.take_sublist _ _)
  refine ⟨srt ((((pairsG g may).take k.toNat).filter fun p => decide (0 < p.1)).map fun p => p.2), srt_lt (hnd.sublist (hsub.map _)), fun z hz => ?_, ?_, ?_⟩
  · exact (pairsG_snd g may).mem_iff.mp ((hsub.map (fun p : Int × Int => p.2)).subset (srt_mem.mp hz))
  · rw [srt_len, List.length_map]
    have h1 := List.length_filter_le (fun p : Int × Int => decide (0 < p.1)) ((pairsG g may).take k.toNat)
    rw [List.length_take] at h1
    omega
  · rw [srt_sum, top_pairs, List.map_map]
    unfold fs
    congr 1
    exact List.map_congr_left fun p hp => (pairsG_at (hsub.subset hp)).2.symm
theorem top_nonneg (k : Int) (g : Int → Int) (may : List Int) : 0 ≤ topB k (may.map g) := by
  rw [top_pairs]
  exact pos_nonneg _
/-! ### what is told of prices at which no swap gains -/
theorem sum_nonneg {g : Int → Int} : ∀ {l : List Int}, (∀ x ∈ l, 0 ≤ g x) → 0 ≤ (l.map g).sum
  | [], _ => Int.le_refl _
  | x :: l, h => by
    rw [List.map_cons, List.sum_cons]
    have := h x (by simp)
    have := sum_nonneg (g := g) (l := l) fun y hy => h y (List.mem_cons_of_mem _ hy)
    omega
theorem sum_nonpos {g : Int → Int} : ∀ {l : List Int}, (∀ x ∈ l, g x ≤ 0) → (l.map g).sum ≤ 0
  | [], _ => Int.le_refl _
  | x :: l, h => by
    rw [List.map_cons, List.sum_cons]
    have := h x (by simp)
    have := sum_nonpos (g := g) (l := l) fun y hy => h y (List.mem_cons_of_mem _ hy)
    omega
theorem sum_less {g : Int → Int} : ∀ {X Y : List Int}, X.length ≤ Y.length → (∀ x ∈ X, ∀ y ∈ Y, g x ≤ g y) → (∀ y ∈ Y, 0 ≤ g y) → (X.map g).sum ≤ (Y.map g).sum
  | [], Y, _, _, h => by
    have := sum_nonneg h
    simpa using this
  | x :: X, [], h, _, _ => by simp at h
  | x :: X, y :: Y, h, hxy, h0 => by
    rw [List.map_cons, List.map_cons, List.sum_cons, List.sum_cons]
    have := hxy x (by simp) y (by simp)
    have := sum_less (X := X) (Y := Y) (by simp at h; exact h) (fun a ha c hc => hxy a (by simp [ha]) c (by simp [hc])) fun c hc => h0 c (by simp [hc])
    omega
theorem sum_split (g : Int → Int) (q : Int → Bool) : ∀ l : List Int, (l.map g).sum = ((l.filter q).map g).sum + ((l.filter fun z => !q z).map g).sum
  | [] => rfl
  | x :: l => by
    have ih := sum_split g q l
    rw [List.map_cons, List.sum_cons]
    cases h : q x with
    | true => rw [List.filter_cons_of_pos h, List.filter_cons_of_neg (by simp [h]), List.map_cons, List.sum_cons]; omega
    | false => rw [List.filter_cons_of_neg (by simp [h]), List.filter_cons_of_pos (by simp [h]), List.map_cons, List.sum_cons]; omega
/-- the row itself gains the most -/
theorem row_top {k : Int} {g : Int → Int} {may row : List Int} (nd : may.Nodup) (ndr : row.Nodup) (hs : ∀ z ∈ row, z ∈ may) (hl : (row.length : Int) ≤ k) (h0 : ∀ z ∈ row, 0 ≤ g z) (h1 : ∀ z ∈ row, ∀ y ∈ may, y ∉ row → g y ≤ g z) (h2 : (row.length : Int) < k → ∀ y ∈ may, y ∉ row → g y ≤ 0) : topB k (may.map g) = (row.map g).sum := by
  refine Int.le_antisymm ?_ (top_ge nd ndr hs hl)
  obtain ⟨M, m1, m2, m3, m4⟩ := top_lot k (by omega) g nd
  rw [← m4]
  have ndM := nodup_asc m1
  have e1 := sum_split g (fun z => decide (z ∈ row)) M
  have e2 := sum_split g (fun z => decide (z ∈ M)) row
  have e3 : ((M.filter fun z => decide (z ∈ row)).map g).sum = ((row.filter fun z => decide (z ∈ M)).map g).sum := by
    refine perm_sum (List.Perm.map g ((List.perm_ext_iff_of_nodup (ndM.filter _) (ndr.filter _)).mpr fun z => ?_))
    rw [List.mem_filter, List.mem_filter]
    simp [and_comm]
  have l1 := split_len (fun z => decide (z ∈ row)) M
  have l2 := split_len (fun z => decide (z ∈ M)) row
  have l3 : (M.filter fun z => decide (z ∈ row)).length = (row.filter fun z => decide (z ∈ M)).length := nodup_same (ndM.filter _) (ndr.filter _) fun z => by
    rw [List.mem_filter, List.mem_filter]
    simp [and_comm]
  have hin : ∀ x ∈ M.filter fun z => !decide (z ∈ row), x ∈ may ∧ x ∉ row := fun x hx => by
    obtain ⟨a, b⟩ := List.mem_filter.mp hx
    exact ⟨m2 x a, by simpa using b⟩
  have hle : ((M.filter fun z => !decide (z ∈ row)).map g).sum ≤ ((row.filter fun z => !decide (z ∈ M)).map g).sum := by
    by_cases hf : (row.length : Int) < k
    · have a1 := sum_nonpos (g := g) (l := M.filter fun z => !decide (z ∈ row)) fun x hx => h2 hf x (hin x hx).1 (hin x hx).2
      have a2 := sum_nonneg (g := g) (l := row.filter fun z => !decide (z ∈ M)) fun x hx => h0 x (List.mem_filter.mp hx).1
      omega
    · refine sum_less (by omega) (fun x hx y hy => h1 y (List.mem_filter.mp hy).1 x (hin x hx).1 (hin x hx).2) fun y hy => h0 y (List.mem_filter.mp hy).1
  omega
theorem list_iota (l : List Int) : l = (iota (l.length : Nat)).map fun i => at_ l i := by
  refine List.ext_getElem (by rw [List.length_map, iota_len]; omega) fun i h1 h2 => ?_
  rw [List.getElem_map]
  have e : (iota (l.length : Nat))[i]'(by rw [iota_len]; omega) = (i : Int) := (iota_at (List.getElem?_eq_getElem (show i < (iota (l.length : Nat)).length by rw [iota_len]; omega))).1
  rw [e, at_eq (List.getElem?_eq_getElem h1)]
theorem zip_sum {ds q : List Int} (h : q.length = ds.length) : ((ds.zip q).map fun p => p.1 * p.2).sum = ((iota (ds.length : Nat)).map fun z => at_ ds z * at_ q z).sum := by
  have e : q = (iota (ds.length : Nat)).map fun z => at_ q z := by
    have := list_iota q
    rw [h] at this
    exact this
  have e2 : ds.zip q = (iota (ds.length : Nat)).map fun z => (at_ ds z, at_ q z) := by
    rw [← zip_iota (fun z => at_ q z) ds, ← e]
  rw [e2, List.map_map]
  rfl
theorem sum_mul_one {n : Int} {h : Int → Int} {w : List Int} (nd : w.Nodup) (hr : ∀ z ∈ w, 0 ≤ z ∧ z < n) : (w.map h).sum = ((iota n).map fun z => one_ (z ∈ w) * h z).sum := by
  have e1 : ((iota n).map fun z => one_ (z ∈ w) * h z).sum = (((iota n).filter fun z => decide (z ∈ w)).map h).sum := by
    generalize iota n = L
    induction L with
    | nil => rfl
    | cons z L ih =>
      rw [List.map_cons, List.sum_cons, ih, List.filter_cons]
      unfold one_
      by_cases hz : z ∈ w
      · rw [if_pos hz, if_pos (by simp [hz]), List.map_cons, List.sum_cons]
        omega
      · rw [if_neg hz, if_neg (by simp [hz])]
        omega
  rw [e1]
  refine perm_sum (List.Perm.map h ((List.perm_ext_iff_of_nodup nd ((iota_nd n).filter _)).mpr fun z => ?_))
  rw [List.mem_filter, iota_mem, decide_eq_true_eq]
  exact ⟨fun q => ⟨hr z q, q⟩, fun q => q.2⟩
theorem sum_cnt {n : Int} {h : Int → Int} : ∀ {ws : List (List Int)}, (∀ w ∈ ws, w.Nodup ∧ ∀ z ∈ w, 0 ≤ z ∧ z < n) → (ws.map fun w => (w.map h).sum).sum = ((iota n).map fun z => cntW ws z * h z).sum
  | [], _ => by
    have e : ((iota n).map fun z => cntW [] z * h z) = (iota n).map fun _ => 0 := List.map_congr_left fun z _ => by
      show ((0 : Nat) : Int) * h z = 0
      omega
    rw [e]
    generalize iota n = L
    induction L with
    | nil => rfl
    | cons a L ih => rw [List.map_cons, List.sum_cons, ← ih]; rfl
  | w :: ws, hw => by
    rw [List.map_cons, List.sum_cons, sum_cnt fun x hx => hw x (by simp [hx]), sum_mul_one (hw w (by simp)).1 (hw w (by simp)).2, ← sum_add2]
    congr 1
    refine List.map_congr_left fun z _ => ?_
    rw [cntW_cons, Int.add_mul]
theorem rows_iota (f : List (List Int)) : f = (iota (f.length : Nat)).map fun i => at_ f i := by
  refine List.ext_getElem (by rw [List.length_map, iota_len]; omega) fun i h1 h2 => ?_
  rw [List.getElem_map]
  have e : (iota (f.length : Nat))[i]'(by rw [iota_len]; omega) = (i : Int) := (iota_at (List.getElem?_eq_getElem (show i < (iota (f.length : Nat)).length by rw [iota_len]; omega))).1
  rw [e, at_eq (List.getElem?_eq_getElem h1)]
section
variable {b : Bk} {ws f : List (List Int)} {as : List Int}
def shiftB (b : Bk) (p : List Int) : List Int := (p.take (spB b).toNat).map fun x => x - at_ p (spB b)
theorem shift_at {p : List Int} (hp : (p.length : Int) = spB b + 1) {z : Int} (hz : 0 ≤ z ∧ z < (b.ds.length : Int)) : at_ (shiftB b p) z = at_ p z - at_ p (spB b) := by
  have hs : (spB b) = (b.ds.length : Int) := rfl
  unfold shiftB
  rw [at_map (by rw [List.length_take]; omega)]
  congr 1
  unfold at_
  rw [List.getD_eq_getElem?_getD, List.getD_eq_getElem?_getD, List.getElem?_take, if_pos (by omega)]
theorem shift_len {p : List Int} (hp : (p.length : Int) = spB b + 1) : (shiftB b p).length = b.ds.length := by
  have hs : (spB b) = (b.ds.length : Int) := rfl
  unfold shiftB
  rw [List.length_map, List.length_take]
  omega
theorem sum_pres_all {h : Int → Int} (hl : f.length = b.rs.length) (h0 : ∀ r : Int, 0 ≤ r ∧ r < (f.length : Int) → r ∈ as → h r = 0) : ((presB b as).map h).sum = ((iota (f.length : Nat)).map h).sum := by
  have e : presB b as = (iota (f.length : Nat)).filter fun r => !decide (r ∈ as) := by unfold presB; rw [hl]
  rw [e]
  have hr : ∀ r ∈ iota (f.length : Nat), r ∈ as → h r = 0 := fun r hr => h0 r (iota_mem.mp hr)
  generalize iota (f.length : Nat) = L at *
  clear e
  induction L with
  | nil => rfl
  | cons x L ih =>
    rw [List.map_cons, List.sum_cons, List.filter_cons, ← ih fun r q => hr r (by simp [q])]
    by_cases hx : x ∈ as
    · rw [if_neg (by simp [hx]), hr x (by simp) hx]
      omega
    · rw [if_pos (by simp [hx]), List.map_cons, List.sum_cons]
/-- the bound of these prices is what is kept -/
theorem slack (dk : DsOk b.ds b.rs) (hws : RowsOk b ws) (G : GoodR b as f) {p : List Int} (hp : (p.length : Int) = spB b + 1) (hn : ∀ e ∈ allSwB b ws f as, ¬ Viol p e) : boundB b ws as (shiftB b p) = keptB b ws f := by
  have ok := G.ok
  have hsp : (spB b) = (b.ds.length : Int) := rfl
  have hgain : ∀ r ∈ presB b as, gainB b ws r (shiftB b p) = ((at_ f r).map fun z => worthB ws r z - at_ (shiftB b p) z).sum := fun r hr => by
    obtain ⟨hr1, hr2⟩ := presB_mem.mp hr
    have hrf : 0 ≤ r ∧ r < (f.length : Int) := by have := ok.1; omega
    have hrow := ok.2 r hrf
    have hmay := dk.ok _ (at_mem hr1)
    have hmr := may_rg dk hr1
    have hg : ∀ z, 0 ≤ z ∧ z < (b.ds.length : Int) → worthB ws r z - at_ (shiftB b p) z = worthB ws r z - at_ p z + at_ p (spB b) := fun z hz => by rw [shift_at hp hz]; omega
    have w0 := worth_sp dk hws r
    unfold gainB
    refine row_top (nodup_asc hmay.2.2.1) (hrow.1.imp fun h => by omega) hrow.2.1 hrow.2.2 (fun z hz => ?_) (fun z hz y hy hny => ?_) (fun hlt y hy hny => ?_)
    · have h := hn (r, spB b, z, worthB ws r z - worthB ws r (spB b)) (sw_mem.mpr ⟨hr, .inl hz, .inr rfl, rfl⟩)
      have h : ¬ (at_ p (spB b) + (worthB ws r z - worthB ws r (spB b)) < at_ p z) := h
      rw [hg z (hmr z (hrow.2.1 z hz))]
      omega
    · have h := hn (r, y, z, worthB ws r z - worthB ws r y) (sw_mem.mpr ⟨hr, .inl hz, .inl ⟨hy, hny⟩, rfl⟩)
      have h : ¬ (at_ p y + (worthB ws r z - worthB ws r y) < at_ p z) := h
      rw [hg z (hmr z (hrow.2.1 z hz)), hg y (hmr y hy)]
      omega
    · have h := hn (r, y, spB b, worthB ws r (spB b) - worthB ws r y) (sw_mem.mpr ⟨hr, .inr ⟨rfl, by unfold freeB; exact decide_eq_true hlt⟩, .inl ⟨hy, hny⟩, rfl⟩)
      have h : ¬ (at_ p y + (worthB ws r (spB b) - worthB ws r y) < at_ p (spB b)) := h
      rw [hg y (hmr y hy)]
      omega
  have hsub : ∀ l : List Int, ∀ r, (l.map fun z => worthB ws r z - at_ (shiftB b p) z).sum = (l.map (worthB ws r)).sum - (l.map fun z => at_ (shiftB b p) z).sum := fun l r => by
    induction l with
    | nil => rfl
    | cons x l ih => rw [List.map_cons, List.map_cons, List.map_cons, List.sum_cons, List.sum_cons, List.sum_cons, ih]; omega
  have e1 : ((presB b as).map fun r => gainB b ws r (shiftB b p)).sum = ((iota (f.length : Nat)).map fun r => ((at_ f r).map fun z => worthB ws r z - at_ (shiftB b p) z).sum).sum := by
    rw [List.map_congr_left hgain]
    refine sum_pres_all ok.1 fun r hr hm => ?_
    rw [G.abs r hr hm]
    rfl
  have e2 : ((iota (f.length : Nat)).map fun r => ((at_ f r).map fun z => worthB ws r z - at_ (shiftB b p) z).sum).sum = keptB b ws f - ((iota (f.length : Nat)).map fun r => ((at_ f r).map fun z => at_ (shiftB b p) z).sum).sum := by
    unfold keptB keptR
    have : ((iota (f.length : Nat)).map fun r => ((realS (spB b) (at_ f r)).map (worthB ws r)).sum) = (iota (f.length : Nat)).map fun r => ((at_ f r).map (worthB ws r)).sum := List.map_congr_left fun r hr => by rw [real_self dk ok (iota_mem.mp hr)]
    rw [this]
    generalize iota (f.length : Nat) = L
    induction L with
    | nil => rfl
    | cons r L ih => rw [List.map_cons, List.map_cons, List.map_cons, List.sum_cons, List.sum_cons, List.sum_cons, ih, hsub]; omega
  have e3 : ((iota (f.length : Nat)).map fun r => ((at_ f r).map fun z => at_ (shiftB b p) z).sum).sum = ((iota (b.ds.length : Nat)).map fun z => cntW f z * at_ (shiftB b p) z).sum := by
    rw [← sum_cnt (n := (b.ds.length : Nat)) (h := fun z => at_ (shiftB b p) z) (ws := f) fun w hw => by
      obtain ⟨i, hi⟩ := List.mem_iff_getElem?.mp hw
      have hlt := (List.getElem?_eq_some_iff.mp hi).1
      have hr : 0 ≤ (i : Int) ∧ (i : Int) < (f.length : Int) := by omega
      have e := at_eq hi
      have hrow := ok.2 i hr
      rw [e] at hrow
      exact ⟨hrow.1.imp fun h => by omega, fun z hz => may_rg dk (by have := ok.1; omega) z (hrow.2.1 z hz)⟩]
    congr 1
    have := rows_iota f
    conv => rhs; rw [this]
    rw [List.map_map]
    rfl
  have e4 : ((iota (b.ds.length : Nat)).map fun z => cntW f z * at_ (shiftB b p) z) = (iota (b.ds.length : Nat)).map fun z => at_ b.ds z * at_ (shiftB b p) z := List.map_congr_left fun z hz => by rw [G.cnt z (iota_mem.mp hz)]
  unfold boundB
  rw [zip_sum (shift_len hp), e1, e2, e3, e4]
  omega
end
/-! ### laid anew -/
def relGo (b : Bk) (ws : List (List Int)) (as : List Int) : Nat → List (List Int) → List (List Int) × List Int
  | 0, f => (f, [])
  | k + 1, f => if (pricesB (spB b + 1) (allSwB b ws f as)).2 = [] then (f, (pricesB (spB b + 1) (allSwB b ws f as)).1) else relGo b ws as k (swappedB f (pricesB (spB b + 1) (allSwB b ws f as)).2 (spB b))
theorem kept_le {b : Bk} {ws f : List (List Int)} (dk : DsOk b.ds b.rs) (ok : RowsOk b f) : keptB b ws f ≤ 36 := by
  have h1 : ∀ r ∈ iota (f.length : Nat), ((realS (spB b) (at_ f r)).map (worthB ws r)).sum ≤ 6 := fun r hr => by
    have hr := iota_mem.mp hr
    rw [real_self dk ok hr]
    have hrow := (ok.2 r hr).2.2
    have hlim := (dk.ok _ (at_mem (show 0 ≤ r ∧ r < (b.rs.length : Int) by have := ok.1; omega))).2.1
    have : ((at_ f r).map (worthB ws r)).sum ≤ ((at_ f r).length : Int) := by
      generalize at_ f r = l
      induction l with
      | nil => exact Int.le_refl _
      | cons x l ih =>
        rw [List.map_cons, List.sum_cons, List.length_cons]
        have : worthB ws r x ≤ 1 := by unfold worthB; split <;> omega
        omega
    omega
  have h2 : ∀ L : List Int, (∀ r ∈ L, ((realS (spB b) (at_ f r)).map (worthB ws r)).sum ≤ 6) → (L.map fun r => ((realS (spB b) (at_ f r)).map (worthB ws r)).sum).sum ≤ 6 * (L.length : Int) := fun L => by
    induction L with
    | nil => intro _; exact Int.le_refl _
    | cons r L ih =>
      intro h
      rw [List.map_cons, List.sum_cons, List.length_cons]
      have := h r (by simp)
      have := ih fun x hx => h x (by simp [hx])
      omega
  have h3 := h2 _ h1
  rw [iota_len] at h3
  have := dk.r6
  have := ok.1
  unfold keptB keptR
  omega
theorem relGo_right {b : Bk} {ws : List (List Int)} {as : List Int} (dk : DsOk b.ds b.rs) (hws : RowsOk b ws) : ∀ {k : Nat} {f : List (List Int)}, GoodR b as f → 37 ≤ (k : Int) + keptB b ws f →
    GoodR b as (relGo b ws as k f).1 ∧ ((relGo b ws as k f).2.length : Int) = spB b + 1 ∧ ∀ e ∈ allSwB b ws (relGo b ws as k f).1 as, ¬ Viol (relGo b ws as k f).2 e
  | 0, f, G, h => by
    have := kept_le (ws := ws) dk G.ok
    omega
  | k + 1, f, G, h => by
    have hs : 0 ≤ spB b := by unfold spB; omega
    have pr := por_right (sw_eok (ws := ws) (as := as) dk G.ok) (by omega : 1 ≤ spB b + 1)
    unfold relGo
    rcases pr with ⟨p1, p2, p3⟩ | ⟨m, c, _, R⟩
    · rw [if_pos p1]
      exact ⟨G, p2, p3⟩
    · have hne : (pricesB (spB b + 1) (allSwB b ws f as)).2 ≠ [] := fun e => by
        have := R.len
        rw [e] at this
        have := R.pos
        simp at *
        omega
      rw [if_neg hne]
      obtain ⟨g1, g2⟩ := swapped_good dk hws G R
      exact relGo_right dk hws g1 (by omega)
end Ew
namespace Ew
open PySem PySem.Spec PyProof.Rows L2
/-! ### two for in one comprehension -/
section
variable {K : PySem.W.Frag} {C : Addr} {α β γ : Type} {S : List Addr} {H : Hp} {σ : L2.St}
theorem evn_lc2 {wi wi1 : TI} {g g1 : TG} {te : TE} {vs vs1 : List Nat} {kx : Kd K C α} {k1 : Kd K C β} {ke : Kd K C γ} {l : List α} {m : α → List β} {f : α → β → γ} (fr : Fr C S H) (hi : EvI kx S H wi σ l) (hl : (l.flatMap fun x => (m x).map (f x)).length ≤ 1000000)
    (hb : ∀ x ∈ l, ∀ D v H', Lf K C S H (D :: S) H' → Fr C (D :: S) H' → kx.rp (D :: S) H' v x → ∀ Q : L2.St → Hp → Prop,
      (∀ σ2, wipe σ2 vs = wipe σ vs → EvI k1 (D :: S) H' wi1 σ2 (m x) → (∀ y ∈ m x, ∀ v' H'', Lf K C (D :: S) H' (D :: S) H'' → Fr C (D :: S) H'' → k1.rp (D :: S) H'' v' y → ∀ Q1 : L2.St → Hp → Prop, (∀ σ3, wipe σ3 vs1 = wipe σ2 vs1 → Ev ke (D :: S) H'' te σ3 (f x y) → Q1 σ3 H'') → g1 v' (wipe σ2 vs1) H'' Q1) → Q σ2 H') → g v (wipe σ vs) H' Q) :
    EvN (kL ke) S H (tLc2 wi g tYes wi1 g1 tYes te vs vs1) σ (l.flatMap fun x => (m x).map (f x)) := fun H1 s1 Q q => by
  refine hi H1 s1 _ fun J H2 s2 W D nD => ?_
  have f2 := fr.same (s1.trans s2)
  have s02 : Same H H2 := s1.trans s2
  refine ⟨fun i n Hx => n = l.length - i ∧ i ≤ l.length ∧ Same H2 Hx ∧ Fr C (D :: S) Hx ∧ ∃ us, Hx D = some (.lst us) ∧ Paired (ke.rp (D :: S) Hx) us ((l.take i).flatMap fun x => (m x).map (f x)), ⟨l.length, by simp, Nat.zero_le _, sameU nD, f2.cons nD trivial, [], upd_same, .nil⟩, ?_⟩
  rintro i n Hx ⟨rfl, hi, sx, fx, us, hD, hP⟩
  have sD : Lf K C S H2 (D :: S) Hx := ⟨fun k v x h => k.same sx (k.new nD h), sx.tab⟩
  by_cases hlt : i < l.length
  · refine .inr ⟨W.go i _ Hx sD hlt, fun H' => i + 1 ≤ l.length ∧ Same H2 H' ∧ Fr C (D :: S) H' ∧ ∃ us, H' D = some (.lst us) ∧ Paired (ke.rp (D :: S) H') us ((l.take (i + 1)).flatMap fun x => (m x).map (f x)), fun H' h => ⟨l.length - (i + 1), by omega, rfl, h⟩, fun v H' hy => ?_⟩
    have hx : l[i]? = some l[i] := by simp [hlt]
    obtain ⟨s3, rv⟩ := W.yld i (D :: S) Hx v H' l[i] sD hx hy
    have l3 : Lf K C S H (D :: S) H' := (Lf.same s02).trans (sD.trans (Lf.same s3))
    have f3 := fx.same s3
    refine hb l[i] (List.getElem_mem _) D v H' l3 f3 rv _ fun σ2 e1 e2 e3 => ⟨e1, ?_⟩
    dsimp only [tYes]
    refine iteT ?_
    refine e2 H' (Same.refl _) _ fun J1 H4 s4 W1 => ?_
    have f4 := f3.same s4
    have hD4 := s4 _ _ (s3 _ _ hD)
    have hP4 := L2.Paired.mapP hP fun _ _ z => ke.same (s3.trans s4) z
    have hflat : (l.take (i + 1)).flatMap (fun x => (m x).map (f x)) = ((l.take i).flatMap fun x => (m x).map (f x)) ++ (m l[i]).map (f l[i]) := by
      rw [take_more hx, List.flatMap_append]
      simp
    have hcap : ∀ j, (((l.take i).flatMap fun x => (m x).map (f x)) ++ ((m l[i]).take j).map (f l[i])).length ≤ 1000000 := fun j => by
      have e : l = l.take (i + 1) ++ l.drop (i + 1) := (List.take_append_drop _ _).symm
      have h1 : (l.flatMap fun x => (m x).map (f x)).length = ((l.take (i + 1)).flatMap fun x => (m x).map (f x)).length + ((l.drop (i + 1)).flatMap fun x => (m x).map (f x)).length := by
        conv => lhs; rw [e, List.flatMap_append, List.length_append]
      rw [hflat, List.length_append, List.length_map] at h1
      rw [List.length_append, List.length_map, List.length_take]
      omega
    refine ⟨fun j k Hy => k = (m l[i]).length - j ∧ j ≤ (m l[i]).length ∧ Lf K C (D :: S) H4 (D :: S) Hy ∧ Same H2 Hy ∧ Fr C (D :: S) Hy ∧ ∃ us, Hy D = some (.lst us) ∧ Paired (ke.rp (D :: S) Hy) us (((l.take i).flatMap fun x => (m x).map (f x)) ++ ((m l[i]).take j).map (f l[i])), ⟨(m l[i]).length, by simp, Nat.zero_le _, Lf.refl, sx.trans (s3.trans s4), f4, us, hD4, by simpa using hP4⟩, ?_⟩
    rintro j k Hy ⟨rfl, hj, lj, sy, fy, us', hDy, hPy⟩
    by_cases hjlt : j < (m l[i]).length
    · refine .inr ⟨W1.go j _ Hy lj hjlt, fun H' => j + 1 ≤ (m l[i]).length ∧ Lf K C (D :: S) H4 (D :: S) H' ∧ Same H2 H' ∧ Fr C (D :: S) H' ∧ ∃ us, H' D = some (.lst us) ∧ Paired (ke.rp (D :: S) H') us (((l.take i).flatMap fun x => (m x).map (f x)) ++ ((m l[i]).take (j + 1)).map (f l[i])), fun H' h => ⟨(m l[i]).length - (j + 1), by omega, rfl, h⟩, fun v' H5 hy5 => ?_⟩
      have hxj : (m l[i])[j]? = some (m l[i])[j] := by simp [hjlt]
      obtain ⟨s5, rv5⟩ := W1.yld j (D :: S) Hy v' H5 (m l[i])[j] lj hxj hy5
      have f5 := fy.same s5
      have l35 : Lf K C (D :: S) H' (D :: S) H5 := (Lf.same s4).trans (lj.trans (Lf.same s5))
      refine e3 _ (List.getElem_mem _) v' H5 l35 f5 rv5 _ fun σ3 e4 e5 => ⟨e4, ?_⟩
      dsimp only [tYes]
      refine iteT ?_
      refine e5 H5 (Same.refl _) _ fun w H6 s6 rw_ => ?_
      have s56 := s5.trans s6
      have hD6 := s56 _ _ hDy
      have hl2 : us'.length < sizeLine := by
        rw [pLen hPy]
        have := hcap j
        exact szl this
      have f6 := fy.same s56
      have su : Sx C (D :: S) H6 (upd H6 D (.lst (us' ++ [w]))) := sx_upd f6 (by simp) trivial
      refine ⟨us', hD6, hl2, hjlt, lj.trans ((Lf.same s56).trans (.sx f6 su)), sameOwn (sy.trans s56) nD, su.fr, us' ++ [w], upd_same, ?_⟩
      rw [take_more hxj, List.map_append, ← List.append_assoc]
      exact Paired.app (L2.Paired.mapP hPy fun _ _ z => ke.sx f6 su (ke.same s56 z)) (.cons (ke.sx f6 su rw_) .nil)
    · have e : j = (m l[i]).length := by omega
      subst e
      rw [List.take_length] at hPy
      refine .inl ⟨W1.stop _ _ Hy lj (Nat.le_refl _), hlt, sy, fy, us', hDy, ?_⟩
      rw [hflat]
      exact hPy
  · have e : i = l.length := by omega
    subst e
    rw [List.take_length] at hP
    exact .inl ⟨W.stop _ _ Hx sD (Nat.le_refl _), q D Hx (s2.free nD) (s2.trans sx) ⟨D, us, rfl, f2.out nD, hD, L2.Paired.mapP hP fun _ _ z => ke.less (fun _ m => List.mem_cons_of_mem _ m) z, hl⟩⟩
end
/-! ### a list or a tuple -/
def tK' (v : V) : TE := fun _ H Q => Q v H
def iSeq (K : PySem.W.Frag) (tl : TE) : TI := fun σ H R => tl σ H fun x H1 => ∃ a, x = .ref a ∧ (((∃ xs, SqL K H1 a xs) ∧ R (Itl K a) H1) ∨ ((∃ xs, SqT K H1 a xs) ∧ R (Itt K a) H1))
theorem pi_seq {X : Cx} {tg : Expr} {l : Expr} {tl : TE} (hl : PE X l tl) : PI X tg l (iSeq X.K tl) := by
  refine ⟨fun pins s σ H R I h => ?_⟩
  refine thn (hl.run pins s σ H _ I h) fun v s1 ⟨x, H1, I1, r1, q1⟩ => ?_
  obtain ⟨a, e, ⟨⟨xs, hq⟩, q⟩ | ⟨⟨xs, hq⟩, q⟩⟩ := q1
  · subst e
    cases r1
    obtain ⟨its, rv, p, hz⟩ := I1.list hq
    refine wpAny_pyIter_list p.isList ?_
    refine ⟨s1.heap.objs.size, [s1.heap.objs.size], _, _, H1, rfl, I1.kept (t' := s1.toks) fun b o e => Heap.get?_push_of_some _ e, turn_list a _, ⟨_, Heap.get?_push_size _ rfl, rfl, rfl⟩, fun b hb => ?_, q⟩
    have e : b = s1.heap.objs.size := by simpa using hb
    subst e
    exact I1.fpOk (Nat.le_refl _) (I1.hok.fresh (Nat.le_refl _))
  · subst e
    cases r1
    obtain ⟨its, rv, p, hz⟩ := I1.tuple hq
    refine wpAny_pyIter_tuple (show s1.heap.IsTuple a its.toArray from p) ?_
    refine ⟨s1.heap.objs.size, [s1.heap.objs.size], _, _, H1, rfl, I1.kept (t' := s1.toks) fun b o e => Heap.get?_push_of_some _ e, turn_tuple a _, ⟨_, Heap.get?_push_size _ rfl, rfl, rfl⟩, fun b hb => ?_, q⟩
    have e : b = s1.heap.objs.size := by simpa using hb
    subst e
    exact I1.fpOk (Nat.le_refl _) (I1.hok.fresh (Nat.le_refl _))
section
variable {K : PySem.W.Frag} {C : Addr} {α : Type} {k : Kd K C α} {S : List Addr} {H : Hp} {σ : L2.St} {t ta tb : TE}
/-- a list or a tuple of things -/
def kM (k : Kd K C α) : Kd K C (List α) where
  rp S H v l := (kL k).rp S H v l ∨ (kT k).rp S H v l
  same s h := h.imp (fun h => (kL k).same s h) fun h => (kT k).same s h
  sx f s h := h.imp (fun h => (kL k).sx f s h) fun h => (kT k).sx f s h
  new n h := h.imp (fun h => (kL k).new n h) fun h => (kT k).new n h
  less m h := h.imp (fun h => (kL k).less m h) fun h => (kT k).less m h
theorem evi_seq {l : List α} (h : Ev (kM k) S H t σ l) : EvI k S H (iSeq K t) σ l := fun H1 s R r => h H1 s _ fun v H2 s2 rv => by
  rcases rv with rv | rv
  · have := (evi_list (k := k) (S := S) (t := tK' v) (σ := σ) (l := l) (fun H3 s3 Q q => q v H3 (Same.refl _) ((kL k).same s3 rv))) H2 (Same.refl _) R fun J H3 s3 W => r J H3 (s2.trans s3) W
    obtain ⟨a, e, h1, h2⟩ := this
    exact ⟨a, e, .inl ⟨h1, h2⟩⟩
  · have := (evi_tup (k := k) (S := S) (t := tK' v) (σ := σ) (l := l) (fun H3 s3 Q q => q v H3 (Same.refl _) ((kT k).same s3 rv))) H2 (Same.refl _) R fun J H3 s3 W => r J H3 (s2.trans s3) W
    obtain ⟨a, e, h1, h2⟩ := this
    exact ⟨a, e, .inr ⟨h1, h2⟩⟩
end
end Ew
namespace Ew
open PySem PySem.Spec PyProof.Rows L2
section
variable {P : Program} {w : World} {K : PySem.W.Frag} {mg mb : Str → Option Value} {k : Nat} {fa a : Addr} {fd : FuncData} {x : Str} {sp : Sp} {s₁ : Shared} {vs : List Value} {ns : List Int}
/-- the law's call from an abstract heap that tracks at most the script -/
theorem call_from2 {H : Hp} (KX : K.In s₁.heap) (hns : s₁.heap.Ns mainGlobals mg) (hb : s₁.heap.Ns builtinsNs mb) (hbb : ∀ x : Str, x ≠ "__name__" → mb x = bootBuiltins x) (hlim : s₁.heap.NoLimit) (hg : s₁.gens = #[])
    (hr : Room k callerA) (hmods : ∃ o es ep, s₁.heap.get? sysModules = some o ∧ o.data = .dict es ep) (F : ∀ base : Heap, K.In base → base.Ns mainGlobals mg → (∃ o, base.get? sysModules = some o) → FnOkG P w K mg base k fa fd [x] sp) (hbind : ∀ (s : Shared) (u : Value), BindsTo s fd ⟨[u], []⟩ [(x, u)])
    (hsp : sp [.ref a] H (fun v _ => v = .bl true) fun _ _ _ => False) (hok : HOk P w H s₁.heap) (dicts : ∀ b o es ep, s₁.heap.get? b = some o → o.data = .dict es ep → H b = none) (kept : ∀ b o, K.lookup b = some o → H b = none)
    (frz : ∀ b u, H b = some u → ∃ o xs, u = .frz o (.lst xs)) :
    codeAny (model P w) callerA (.call (.ref fa) ⟨[.ref a], []⟩) (fun r s' => r = .ok (.ret (.bool true)) ∧ OldK s₁.heap s'.heap ∧ s'.os = s₁.os ∧ AllBare s'.gens) s₁ := by
  have nsB : ∀ {b : Addr} {m : Str → Option Value}, s₁.heap.Ns b m → (hidT s₁.heap H).Ns b m := by
    rintro b m ⟨o, es, ep, e, d, r⟩
    exact ⟨o, es, ep, hidT_get e (dicts _ _ _ _ e d), d, r⟩
  have inB : K.In (hidT s₁.heap H) := fun b o e => hidT_get (KX b o e) (kept b o e)
  have hM : Mod K mg (hidT s₁.heap H) := ⟨inB, nsB hns, ⟨mb, nsB hb, hbb⟩, let ⟨mc, h1, h2⟩ := hlim; ⟨mc, nsB h1, h2⟩⟩
  have noFr : ∀ b ∈ frs ([] : List Env), H b = none := fun b z => absurd (show b ∈ ([] : List Addr) from z) (by simp)
  have e0 : Env0 P w K mg (hidT s₁.heap H) callerA [] s₁ H := ⟨rfl, hM, fun b o e => of_hidT e, Nat.le_of_eq (hidT_size _ _), trivial, noFr, hok, .of_eq hg⟩
  refine codeAny_mono ((F _ inB (nsB hns) (let ⟨o, es, ep, e, d⟩ := hmods; ⟨o, hidT_get e (dicts _ _ _ _ e d)⟩)).run callerA [] s₁ H ⟨[.ref a], []⟩ [.ref a] [.ref a] _ _ rfl hr e0 (hbind s₁ (.ref a)) (.cons rfl .nil) hsp) fun r s' h => ?_
  cases r with
  | error e => exact False.elim h
  | ok fl =>
    cases fl with
    | next => exact False.elim h
    | brk => exact False.elim h
    | cont => exact False.elim h
    | ret u =>
      obtain ⟨v, H', os, bare, un, hok', r', q⟩ := h
      obtain rfl : v = .bl true := q
      obtain rfl : u = Value.bool true := r'
      refine ⟨rfl, OldK.of_keep fun b o e => ?_, os, bare⟩
      cases hb2 : H b with
      | none => exact un.keep b o e hb2 (fun z => absurd (show b ∈ ([] : List Addr) from z) (by simp)) (by simp)
      | some u =>
        obtain ⟨ob, xs, rfl⟩ := frz b u hb2
        obtain ⟨e1, _⟩ := hok b _ hb2
        obtain ⟨e2, _⟩ := hok' b _ (un.frzs b ob _ hb2)
        exact e2.trans (e1.symm.trans e)
end
/-- the end of a law whose def asks that no repr is under way -/
theorem walk_ofG2 {l : PySem.W.OpenLaw} {n k : Nat} {q : Program} {loose : List Str} {XP : (Str → Option Value) → Heap → Prop} {YP : World → Heap → Prop} {d : DefRec} {K : Params → PySem.W.Frag} {sp : World → Sp} {x : Str}
    (hn : l.most = some n) (hn2 : n ≤ sizeLine) (hdf : d.params.defaults = []) (hr : Room k callerA) (hq : importsNone q = true)
    (hY : ∀ (w : World) (h : Heap), YP w h → (K w.params).In h)
    (F : ∀ (w : World) (mg : Str → Option Value) (fa : Addr) (h : Heap), (K w.params).In h → h.Ns mainGlobals mg → mg d.name = some (.ref fa) →
      ∃ fd : FuncData, (∀ (s : Shared) (u : Value), BindsTo s fd ⟨[u], []⟩ [(x, u)]) ∧
        ∀ base : Heap, (K w.params).In base → base.Ns mainGlobals mg → (∃ o, base.get? sysModules = some o) → FnOkG l.prog w (K w.params) mg base k fa fd [x] (sp w))
    (hsp : ∀ (w : World) (H : Hp) (a : Addr) (ns : List Int), ns.length ≤ n → SqL (K w.params) H a (ns.map V.int) → sp w [.ref a] H (fun v _ => v = .bl true) fun _ _ _ => False) :
    PySem.W.WalkO q loose XP YP l.row.toRowW d [] (fun f vs => PySem.call f vs) := by
  refine Att.attach_call hn hdf fun w s₀ s₁ mg mb fa o pm cd doc a vs ns G Y ho hd hcd hmg hobj hints hlen hg => ?_
  have KX := hY w _ Y
  have hmods : ∃ o es ep, s₁.heap.get? sysModules = some o ∧ o.data = .dict es ep := by
    obtain ⟨mm, ⟨o, es, ep, e, dd, _⟩, _⟩ := (G.T.seer hq).mods
    exact ⟨o, es, ep, e, dd⟩
  obtain ⟨fd, hb, hF⟩ := F w mg fa _ KX G.T.g hmg
  have rv := vals_ints hints
  have ls : (ns.map V.int).length ≤ sizeLine := by rw [List.length_map]; exact Nat.le_trans hlen hn2
  cases hk : (K w.params).lookup a with
  | some o =>
    -- the script is one of the module's own objects
    have e := KX a o hk
    rw [hobj] at e
    cases e
    have none_ : ∀ b, (fun _ => none : Hp) b = none := fun _ => rfl
    refine call_from2 (H := fun _ => none) KX G.T.g G.T.b G.T.builtins G.T.nolimit hg hr hmods hF hb (hsp w _ a ns hlen (.inr ⟨_, vs.toArray, _, hk, rfl, rfl, rfl, ?_, by simpa using rv⟩)) (fun b u z => by cases z) (fun _ _ _ _ _ _ => rfl) (fun _ _ _ => rfl) (fun b u z => by cases z)
    rw [List.size_toArray, ← rv.length]
    exact ls
  | none =>
    refine call_from2 (H := only a { cls := .type "list", data := .seq vs.toArray } (ns.map V.int)) KX G.T.g G.T.b G.T.builtins G.T.nolimit hg hr hmods hF hb (hsp w _ a ns hlen (.inl (.inr ⟨_, only_at⟩))) (fun b u z => ?_) (fun b ob es ep e d => ?_) (fun b ob e => ?_) (fun b u z => ⟨_, _, (only_is z).2⟩)
    · obtain ⟨rfl, rfl⟩ := only_is z
      exact ⟨hobj, ls, vs, _, rv, hobj⟩
    · refine only_ne fun z => ?_
      rw [z, hobj] at e
      cases e
      cases (show Data.seq vs.toArray _ = Data.dict es ep from d)
    · refine only_ne fun z => ?_
      rw [z, hk] at e
      cases e
end Ew
namespace Ew
open PySem PySem.Spec PyProof.Rows L2
section
variable {K : PySem.W.Frag} {C : Addr} {S : List Addr} {H Hc : Hp} {f p : Addr}
theorem fr_feed (h : FeedAt H f) : Fr C [f] H := fun a m => by
  rw [List.mem_singleton.mp m]
  obtain ⟨d, t, e⟩ := h
  exact ⟨_, e, trivial⟩
/-- the feed has gone on -/
theorem sx_ext (fr : Fr C S H) (hf : f ∈ S) (e : Ext1 f H Hc) : Sx C S H Hc := ⟨fun b o nb hb w => e.1 b o (fun z => nb (by rw [z]; exact hf)) hb w, fun s m => by
  by_cases h : s = f
  · subst h
    obtain ⟨d, t, z⟩ := e.2
    exact ⟨_, z, trivial⟩
  · obtain ⟨o, z, w⟩ := fr s m
    exact ⟨o, e.1 s o h z w.nt, w⟩, e.tab⟩
theorem lf_ext (fr : Fr C S H) (hf : f ∈ S) (e : Ext1 f H Hc) : Lf K C S H S Hc := .sx fr (sx_ext fr hf e)
/-- .. and an object has come -/
theorem lf_ext1 (fr : Fr C S H) (hf : f ∈ S) (np : H p = none) (e : Ext1 f H Hc) (fc : Fr C (p :: S) Hc) : Lf K C S H (p :: S) Hc := by
  refine (Lf.own (o := .lst []) np).trans (.sx (fr.cons np trivial) ⟨fun b o nb hb w => ?_, fc, fun P q t => e.tab P q (tab_back t)⟩)
  have h1 : b ≠ p := fun z => nb (by simp [z])
  have h2 : b ≠ f := fun z => nb (by rw [z]; exact List.mem_cons_of_mem _ hf)
  rw [upd_ne h1] at hb
  exact e.1 b o h2 hb w
theorem gt2n {α β γ : Type} {k : Kd K C α} {k1 : Kd K C β} {k2 : Kd K C γ} {z : α × β × γ} {v : V} {σ : L2.St} {i j m : Nat} {Q : L2.St → Hp → Prop} (hv : (kP k (kP k1 k2)).rp S H v z) (q : ∀ v1 v2 v3, k.rp S H v1 z.1 → k1.rp S H v2 z.2.1 → k2.rp S H v3 z.2.2 → Q (((σ.set i (some v1)).set j (some v2)).set m (some v3)) H) :
    gTup K 2 (gCons (gName i) (gCons (gTup K 2 (gCons (gName j) (gCons (gName m) gNil))) gNil)) v σ H Q := by
  obtain ⟨t, v1, v2, rfl, hT, r1, t2, w1, w2, rfl, hT2, r2, r3⟩ := hv
  exact ⟨t, _, rfl, hT, rfl, v1, _, rfl, .ref t2, _, rfl, t2, _, rfl, hT2, rfl, w1, _, rfl, w2, _, rfl, rfl, rfl, q v1 w1 w2 r1 r2 r3⟩
end
def spGone (K : PySem.W.Frag) : Sp := fun vs H Q _ => ∃ (f R : Addr) (us : List V), vs = [.ref f, .ref R] ∧ FeedAt H f ∧ R ≠ f ∧ SqL K H R us ∧ us.length ≤ 60 ∧
  ∀ H' p as, Ext1 f H H' → H p = none → H' p = some (.tup (as.map V.int)) → Asc us.length as → Q (.ref p) H'
section
variable {P : Program} {w : World} {K : PySem.W.Frag} {mg : Str → Option Value} {base : Heap} {C : Addr}
end
/-! ### from the law's own defs to kinds -/
section
variable {K : PySem.W.Frag} {C : Addr} {S : List Addr} {H : Hp} {f A R : Addr} {ds : List Int} {us : List V} {rs : List (Int × List Int)}
theorem bookAt_ds (h : BookAt K H A R ds us rs) (n : A ∉ S) : (kL (kI (K := K) (C := C))).rp S H (.ref A) ds := ⟨A, _, rfl, n, h.dem, paired_ints _, Nat.le_trans h.n6 (by decide)⟩
theorem bookAt_rs (h : BookAt K H A R ds us rs) (n : R ∉ S) : (kL (kR (K := K) (C := C))).rp S H (.ref R) rs := ⟨R, us, rfl, n, h.rd, rds_kR h.rds fun r hr => Nat.le_trans (h.dsOk.may hr) (by decide), Nat.le_trans h.r6 (by decide)⟩
theorem rows_kWs {W : Addr} {vs : List V} {ws : List (List Int)} (h : H W = some (.lst vs)) (p : Paired (RowT K H) vs ws) (n : W ∉ S) (l6 : ws.length ≤ 6) (hb : ∀ w ∈ ws, w.length ≤ 6) : (kWs (K := K) (C := C)).rp S H (.ref W) ws := by
  refine ⟨W, vs, rfl, n, h, ?_, by omega⟩
  clear h l6
  induction p with
  | nil => exact .nil
  | cons a t ih => exact .cons (rT_ints a (Nat.le_trans (hb _ (by simp)) (by decide))) (ih fun w hw => hb w (by simp [hw]))
theorem kWs_rows {v : V} {ws : List (List Int)} (h : (kWs (K := K) (C := C)).rp S H v ws) : ∃ W vs, v = .ref W ∧ W ∉ S ∧ H W = some (.lst vs) ∧ Paired (RowT K H) vs ws := by
  obtain ⟨W, vs, e, n, h1, p, _⟩ := h
  exact ⟨W, vs, e, n, h1, L2.Paired.mapP p fun _ _ z => let ⟨t, e, q, _⟩ := kT_ints z; ⟨t, e, q⟩⟩
theorem kRs_rdL {v : V} (h : (kL (kR (K := K) (C := C))).rp S H v rs) : ∃ R, v = .ref R ∧ R ∉ S ∧ RdL K H R rs := by
  obtain ⟨R, vs, e, n, h1, p, _⟩ := h
  exact ⟨R, e, n, vs, .inl (.inl h1), kR_rds p⟩
theorem rowsOk_of {ws : List (List Int)} (p : Paired RowOk rs ws) : RowsOk ⟨ds, rs⟩ ws := by
  have hl := pLen p
  refine ⟨hl.symm, fun i hi => ?_⟩
  have h1 : rs[i.toNat]? = some (at_ rs i) := at_get ⟨hi.1, by show i < rs.length; rw [hl]; exact hi.2⟩
  obtain ⟨w, e, r⟩ := Paired.at1 p h1
  have e2 := at_get hi
  rw [e] at e2
  rw [← Option.some.inj e2]
  exact r
theorem rowsOk_nil (ok : DsOk ds rs) : RowsOk ⟨ds, rs⟩ (rs.map fun _ => []) := by
  refine ⟨by simp, fun i hi => ?_⟩
  rw [List.length_map] at hi
  have e : at_ (rs.map fun _ => ([] : List Int)) i = [] := by
    unfold at_
    rw [List.getD_eq_getElem?_getD, List.getElem?_map]
    cases rs[i.toNat]? <;> rfl
  rw [e]
  exact ⟨.nil, fun x hx => (nomatch hx), (ok.ok _ (at_mem hi)).1⟩
theorem RowsOk.len6 {ws : List (List Int)} (h : RowsOk ⟨ds, rs⟩ ws) (ok : DsOk ds rs) : ∀ w ∈ ws, w.length ≤ 6 ∧ ∀ x ∈ w, Dig x := fun w hw => by
  obtain ⟨j, hj, e⟩ := List.mem_iff_getElem.mp hw
  have hl : ws.length = rs.length := h.1
  have r := h.2 (j : Int) ⟨by omega, by omega⟩
  have e2 : at_ ws (j : Int) = w := by
    unfold at_
    rw [Int.toNat_natCast, List.getD_eq_getElem?_getD, List.getElem?_eq_getElem hj]
    exact e
  rw [e2] at r
  have m := at_mem (l := rs) (i := (j : Int)) ⟨by omega, by omega⟩
  have rd := ok.ok _ m
  have r1 : (w.length : Int) ≤ (at_ rs (j : Int)).1 := r.2.2
  have := rd.2.1
  refine ⟨by omega, fun x hx => ?_⟩
  have := rd.2.2.2 x (r.2.1 x hx)
  have := ok.n6
  unfold Dig
  omega
/-- repr([x, y]) of rows -/
theorem ev_repr2 {σ : L2.St} {ta tb : TE} {x y : List (List Int)} (hx : Ev (kWs (K := K) (C := C)) S H ta σ x) (hy : Ev (kWs (K := K) (C := C)) S H tb σ y) (lx : x.length ≤ 6) (ly : y.length ≤ 6) (bx : ∀ w ∈ x, w.length ≤ 6 ∧ ∀ z ∈ w, Dig z) (by_ : ∀ w ∈ y, w.length ≤ 6 ∧ ∀ z ∈ w, Dig z) :
    Ev (K := K) (C := C) kS S H (tCB (rRepr K) (tCons (tLst (tCons ta (tCons tb tNil))) tNil)) σ (PyData.shown (dPr (dWs x) (dWs y))) := fun H1 s Q q => by
  refine hx H1 s _ fun v H2 s2 r2 => hy H2 (s.trans s2) _ fun u H3 s3 r3 => ⟨szL (by simp), fun l nl => ?_⟩
  obtain ⟨W1, vs1, rfl, _, h1, p1⟩ := kWs_rows (kWs.same s3 r2)
  obtain ⟨W2, vs2, rfl, _, h2, p2⟩ := kWs_rows r3
  have sl : Same H3 (upd H3 l (.lst [.ref W1, .ref W2])) := sameU nl
  have sh := show_dPr (show_dWs bx) (show_dWs by_)
  have l1 : x.length * (5 + 6 * 3) ≤ 6 * (5 + 6 * 3) := Nat.mul_le_mul_right _ lx
  have l2 : y.length * (5 + 6 * 3) ≤ 6 * (5 + 6 * 3) := Nat.mul_le_mul_right _ ly
  refine ⟨_, dPr (dWs x) (dWs y), rfl, .lst (.inl (.inl upd_same)) (.cons (dp_dWs (.inl (.inl (sl _ _ h1))) (L2.Paired.mapP p1 fun _ _ z => z.same sl)) (.cons (dp_dWs (.inl (.inl (sl _ _ h2))) (L2.Paired.mapP p2 fun _ _ z => z.same sl)) .nil)), sh.1, Nat.le_trans (dep_dPr (dep_dWs x) (dep_dWs y)) (by decide), Nat.le_trans sh.2 (szL (by omega)), ?_⟩
  exact q _ _ (s2.trans (s3.trans sl)) rfl
end
section
variable {K : PySem.W.Frag} {C : Addr} {α : Type} {k : Kd K C α} {S : List Addr} {H : Hp} {σ : L2.St} {ta tb : TE} {x : α} {D : Ends} {u : TS} {i j : Nat}
theorem q_parR (h : EvN k S H ta σ x) (q : ∀ p1 H1, H p1 = none → Same H H1 → k.rp S H1 (.ref p1) x → tb σ H1 (fun w H2 => ∃ v w', [V.ref p1, w] = [v, w'] ∧ u D ((σ.set i (some v)).set j (some w')) H2)) : tSeq (tPar i j (tCons ta (tCons tb tNil))) u D σ H := h.use fun p1 H1 n s r => q p1 H1 n s r
theorem a_consN {t : TA} {Q : List V → Hp → Prop} (h : EvN k S H ta σ x) (q : ∀ p H1, H p = none → Same H H1 → k.rp S H1 (.ref p) x → t σ H1 (fun vs H2 => Q (.ref p :: vs) H2)) : tCons ta t σ H Q := h.use q
end
/-- repr(rows) -/
theorem ev_repr1 {K : PySem.W.Frag} {C : Addr} {S : List Addr} {H : Hp} {σ : L2.St} {ta : TE} {x : List (List Int)} (hx : Ev (kWs (K := K) (C := C)) S H ta σ x) (lx : x.length ≤ 6) (bx : ∀ w ∈ x, w.length ≤ 6 ∧ ∀ z ∈ w, Dig z) :
    Ev (K := K) (C := C) kS S H (tCB (rRepr K) (tCons ta tNil)) σ (PyData.shown (dWs x)) := fun H1 s Q q => by
  refine hx H1 s _ fun v H2 s2 r2 => ?_
  obtain ⟨W1, vs1, rfl, _, h1, p1⟩ := kWs_rows r2
  have sh := show_dWs bx
  have l1 : x.length * (5 + 6 * 3) ≤ 6 * (5 + 6 * 3) := Nat.mul_le_mul_right _ lx
  exact ⟨_, dWs x, rfl, dp_dWs (.inl (.inl h1)) p1, sh.1, Nat.le_trans (dep_dWs x) (by decide), Nat.le_trans sh.2 (szL (by omega)), q _ _ s2 rfl⟩
section
variable {K : PySem.W.Frag} {C : Addr} {α β : Type} {k : Kd K C α} {k1 : Kd K C β} {S : List Addr} {H : Hp} {σ : L2.St} {te ta tb tc : TE} {x : α} {y : β} {f : Addr} {i j m : Nat} {Φ : α → Prop} {D : Ends} {u : TS}
theorem q_parRe (h : Ev k S H ta σ x) (q : ∀ v1 H1, Same H H1 → k.rp S H1 v1 x → tb σ H1 (fun w H2 => ∃ v w', [v1, w] = [v, w'] ∧ u D ((σ.set i (some v)).set j (some w')) H2)) : tSeq (tPar i j (tCons ta (tCons tb tNil))) u D σ H := h.use fun v1 H1 s r => q v1 H1 s r
/-! ### draws: only the feed goes on -/
def EvF (f : Addr) (k : Kd K C α) (H : Hp) (t : TE) (σ : L2.St) (Φ : α → Prop) : Prop := ∀ Q : VK, (∀ v H2 x, Ext1 f H H2 → k.rp [f] H2 v x → Φ x → Q v H2) → t σ H Q
theorem evf_of (hf : FeedAt H f) (h : Ev k [f] H te σ x) : EvF f k H te σ (fun y => y = x) := fun Q q => h.use fun v H2 s r => q v H2 x (Ext1.same hf s) r rfl
theorem evf_take {n : Int} (e : σ[i]? = some (some (.ref f))) (hf : FeedAt H f) (h : Ev (K := K) (C := C) kI [f] H tb σ n) (h0 : 0 < n) (h1 : n < 1000) : EvF (K := K) (C := C) f kI H (tCall spTake [] C8.E0 (tCons (tVar i) (tCons tb tNil))) σ fun x => 0 ≤ x ∧ x < n := fun Q q => ⟨_, e, h.use fun v H2 s r => by
  cases (show v = .int n from r)
  exact ⟨f, n, rfl, (Ext1.same hf s).feed, h0, h1, fun H3 x e3 x0 x1 => q _ H3 x ((Ext1.same hf s).trans e3) rfl ⟨x0, x1⟩⟩⟩
theorem paired_mem {R : V → α → Prop} {vs : List V} {l : List α} {v : V} (p : Paired R vs l) (h : v ∈ vs) : ∃ x ∈ l, R v x := by
  induction p with
  | nil => cases h
  | cons a t ih =>
    rcases List.mem_cons.mp h with rfl | h
    · exact ⟨_, by simp, a⟩
    · obtain ⟨x, m, r⟩ := ih h
      exact ⟨x, by simp [m], r⟩
theorem evf_pick {l : List α} (e : σ[i]? = some (some (.ref f))) (hf : FeedAt H f) (h : Ev (kL k) [f] H tb σ l) (hne : l ≠ []) (hl : l.length < 1000) : EvF f k H (tCall (spPick K) [] C8.E0 (tCons (tVar i) (tCons tb tNil))) σ fun x => x ∈ l := fun Q q => ⟨_, e, h.use fun v H2 s r => by
  obtain ⟨a, vs, rfl, na, hA, p, _⟩ := r
  have hp := pLen p
  have e2 := Ext1.same hf s
  refine ⟨f, a, vs, rfl, e2.feed, .inl (.inl hA), fun z => na (by simp [z]), by rw [hp]; exact List.length_pos_iff.mpr hne, by omega, fun H3 v e3 hv => ?_⟩
  obtain ⟨x, m, rx⟩ := paired_mem p hv
  exact q v H3 x (e2.trans e3) ((lf_ext (fr_feed e2.feed) (by simp) e3).go k v x rx) m⟩
theorem kR_rdLs {v : V} {rs : List (Int × List Int)} (h : (kL (kR (K := K) (C := C))).rp [f] H v rs) : ∃ R us, v = .ref R ∧ R ≠ f ∧ SqL K H R us ∧ us.length = rs.length ∧ RdL K H R rs := by
  obtain ⟨R, us, e, n, h1, p, _⟩ := h
  exact ⟨R, us, e, fun z => n (by simp [z]), .inl (.inl h1), pLen p, us, .inl (.inl h1), kR_rds p⟩
theorem evf_rows {ds : List Int} {rs : List (Int × List Int)} {Ψ : List Int → Prop} (e : σ[i]? = some (some (.ref f))) (hf : FeedAt H f) (e2 : σ[j]? = some (some (.ref m))) (hR : (kL (kR (K := K) (C := C))).rp [f] H (.ref m) rs) (ok : DsOk ds rs) (h : EvF (K := K) (C := C) f (kT kI) H tc σ Ψ) :
    EvF (K := K) (C := C) f kWs H (tCall (spRows K) [] C8.E0 (tCons (tVar i) (tCons (tVar j) (tCons tc tNil)))) σ fun ws => RowsOk ⟨ds, rs⟩ ws ∧ ∃ as, Ψ as ∧ ∀ r : Int, 0 ≤ r → r < ws.length → r ∈ as → at_ ws r = [] := fun Q q => ⟨_, e, _, e2, h _ fun v H2 as x2 r2 ψ => by
  obtain ⟨ab, rfl, hab, _⟩ := kT_ints r2
  have hR2 := (lf_ext (fr_feed hf) (by simp) x2).go _ _ _ hR
  obtain ⟨R, us, e3, nR, hsq, hul, hrd⟩ := kR_rdLs hR2
  cases e3
  have r6 := ok.r6
  have n6 := ok.n6
  refine ⟨f, m, ab, rs, as, rfl, x2.feed, nR, hrd, rdsOk_of ok.ok (by omega) (by omega), by omega, hab, fun H3 W vw ws x3 nW hW pW ro hz => ?_⟩
  have rok := rowsOk_of (ds := ds) ro
  have l6 : ws.length ≤ 6 := by have h : ws.length = rs.length := rok.1; omega
  have fW : W ≠ f := x2.feed.ne nW
  refine q _ H3 ws (x2.trans x3) (rows_kWs hW pW (by simp [fW]) l6 fun w hw => (rok.len6 ok w hw).1) ⟨rok, as, ψ, fun r r0 r1 hm => ?_⟩
  have h1 := at_get (l := ws) (i := r) ⟨r0, r1⟩
  exact hz r.toNat _ h1 (by rw [Int.toNat_of_nonneg r0]; exact hm)⟩
theorem evf_gone {rs : List (Int × List Int)} (e : σ[i]? = some (some (.ref f))) (hf : FeedAt H f) (e2 : σ[j]? = some (some (.ref m))) (hR : (kL (kR (K := K) (C := C))).rp [f] H (.ref m) rs) (r6 : rs.length ≤ 6) :
    EvF (K := K) (C := C) f (kT kI) H (tCall (spGone K) [] C8.E0 (tCons (tVar i) (tCons (tVar j) tNil))) σ fun as => Asc rs.length as := fun Q q => ⟨_, e, _, e2, by
  obtain ⟨R, us, e3, nR, hsq, hul, hrd⟩ := kR_rdLs hR
  cases e3
  refine ⟨f, m, us, rfl, hf, nR, hsq, by omega, fun H5 ab as e5 n5 h5 asc5 => ?_⟩
  rw [hul] at asc5
  exact q _ H5 as e5 ⟨ab, _, rfl, .inl (.inl h5), paired_ints _, by have := asc5.len (by omega); omega⟩ asc5⟩
theorem q_setF (h : EvF f k H te σ Φ) (q : ∀ v H2 x, Ext1 f H H2 → k.rp [f] H2 v x → Φ x → u D (σ.set i (some v)) H2) : tSeq (tAsg te (gName i)) u D σ H := h _ q
/-- demands, readers = _law_book(feed, .., ..) -/
theorem q_book {mw mr : Int} {n2 : Nat} (hn : n2 = 2) (e : σ[i]? = some (some (.ref f))) (hf : FeedAt H f) (h1 : 1 ≤ mw) (h2 : mw ≤ 6) (h3 : 0 ≤ mr) (h4 : mr ≤ 6)
    (q : ∀ A R H2 ds rs, Ext1 f H H2 → (kL (kI (K := K) (C := C))).rp [f] H2 (.ref A) ds → (kL (kR (K := K) (C := C))).rp [f] H2 (.ref R) rs → DsOk ds rs → (ds.length : Int) ≤ mw → (rs.length : Int) ≤ mr → u D ((σ.set j (some (.ref A))).set m (some (.ref R))) H2) :
    tSeq (tAsg (tCall (spBook K) [] C8.E0 (tCons (tVar i) (tCons (tC (.int mw)) (tCons (tC (.int mr)) tNil)))) (gUnl K n2 (gCons (gName j) (gCons (gName m) gNil)))) u D σ H := by
  subst hn
  exact ⟨_, e, f, mw, mr, rfl, hf, h1, h2, h3, h4, fun H3 p A R ds us rs e3 np nA nR hp bk npA npR l1 l2 => by
  refine ⟨p, _, rfl, .inl (.inl hp), rfl, _, _, rfl, _, _, rfl, rfl, ?_⟩
  have fA : A ≠ f := hf.ne nA
  have fR : R ≠ f := hf.ne nR
  exact q A R H3 ds rs e3 (bookAt_ds bk (by simp [fA])) (bookAt_rs bk (by simp [fR])) bk.dsOk l1 l2⟩
theorem evn_l2 {x' : α} (h : Ev k S H ta σ x) (g : Ev k S H tb σ x') (fr : Fr C S H) : EvN (kL k) S H (tLst (tCons ta (tCons tb tNil))) σ [x, x'] := fun H1 s Q q =>
  h H1 s _ fun v H2 s2 r => g H2 (s.trans s2) _ fun w H3 s3 r3 => ⟨szL (by simp), fun p hn => q _ _ (s2.free (s3.free hn)) (s2.trans (s3.trans (sameU hn))) ⟨p, [v, w], rfl, (fr.same (s.trans (s2.trans s3))).out hn, upd_same, .cons (k.same (s3.trans (sameU hn)) r) (.cons (k.same (sameU hn) r3) .nil), by simp⟩⟩
theorem evn_l3 {x' x'' : α} (h : Ev k S H ta σ x) (g : Ev k S H tb σ x') (g' : Ev k S H tc σ x'') (fr : Fr C S H) : EvN (kL k) S H (tLst (tCons ta (tCons tb (tCons tc tNil)))) σ [x, x', x''] := fun H1 s Q q =>
  h H1 s _ fun v H2 s2 r => g H2 (s.trans s2) _ fun w H3 s3 r3 => g' H3 (s.trans (s2.trans s3)) _ fun u H4 s4 r4 => ⟨szL (by simp), fun p hn => q _ _ (s2.free (s3.free (s4.free hn))) (s2.trans (s3.trans (s4.trans (sameU hn)))) ⟨p, [v, w, u], rfl, (fr.same (s.trans (s2.trans (s3.trans s4)))).out hn, upd_same, .cons (k.same (s3.trans (s4.trans (sameU hn))) r) (.cons (k.same (s4.trans (sameU hn)) r3) (.cons (k.same (sameU hn) r4) .nil)), by simp⟩⟩
/-- t[0], t[1] of a tuple that stands -/
theorem ev_pair0 {t : Addr} {v w : V} (e : σ[i]? = some (some (.ref t))) (hT : SqT K H t [v, w]) (hv : k.rp S H v x) : Ev k S H (tOp (rIxT K) (tVar i) (tC (.int 0))) σ x := fun H1 s Q q =>
  ⟨_, e, t, _, 0, v, rfl, rfl, sameT s hT, rfl, q v H1 (Same.refl _) (k.same s hv)⟩
theorem ev_pair1 {t : Addr} {v w : V} (e : σ[i]? = some (some (.ref t))) (hT : SqT K H t [v, w]) (hv : k.rp S H w x) : Ev k S H (tOp (rIxT K) (tVar i) (tC (.int 1))) σ x := fun H1 s Q q =>
  ⟨_, e, t, _, 1, w, rfl, rfl, sameT s hT, rfl, q w H1 (Same.refl _) (k.same s hv)⟩
/-- t[1][:-1], a list to which something was appended -/
theorem ev_pairInit {t p : Addr} {v z : V} {vs : List V} {l : List α} (e : σ[i]? = some (some (.ref t))) (hT : SqT K H t [v, .ref p]) (hp : H p = some (.lst (vs ++ [z]))) (hP : Paired (k.rp S H) vs l) (hl : l.length ≤ 1000000) (fr : Fr C S H) :
    Ev (kL k) S H (tSl (rSlL K) (tOp (rIxT K) (tVar i) (tC (.int 1))) tNoPart (tPart (tUn (rU fun i => .int (-i)) (tC (.int 1))))) σ l := fun H1 s Q q => by
  refine ⟨_, e, t, _, 1, .ref p, rfl, rfl, sameT s hT, rfl, 1, rfl, -1, rfl, p, _, rfl, .inl (.inl (s _ _ hp)), fun c nc => ?_⟩
  have ec : cutV (vs ++ [z]) none (some (-1)) = vs := by
    unfold cutV
    have e1 : HT.sIx (vs ++ [z]).length 0 none = 0 := rfl
    have e2 : HT.sIx (vs ++ [z]).length (vs ++ [z]).length (some (-1)) = vs.length := by
      show (if (-1 : Int) < 0 then ((-1 : Int) + ((vs ++ [z]).length : Nat)).toNat else min (-1 : Int).toNat (vs ++ [z]).length) = _
      rw [if_pos (by omega), List.length_append, List.length_singleton]
      omega
    rw [e1, e2, List.drop_zero, Nat.sub_zero, List.take_append_of_le_length (Nat.le_refl _), List.take_length]
  rw [ec]
  exact q _ _ (sameU nc) ⟨c, vs, rfl, (fr.same s).out nc, upd_same, L2.Paired.mapP hP fun _ _ z => k.same (s.trans (sameU nc)) z, hl⟩
/-- feed = _law_feed(script, k) -/
theorem q_feed {a : Addr} {ns : List Int} {kk : Int} (e : σ[i]? = some (some (.ref a))) (e2 : σ[j]? = some (some (.int kk))) (hS : SqL K H a (ns.map V.int)) (hl : ns.length ≤ 63) (h0 : 0 ≤ kk) (h1 : kk < 10) (q : ∀ f H2, Same H H2 → H f = none → FeedAt H2 f → u D (σ.set m (some (.ref f))) H2) :
    tSeq (tAsg (tCall (spFeed K) [] C8.E0 (tCons (tVar i) (tCons (tVar j) tNil))) (gName m)) u D σ H := ⟨_, e, _, e2, a, ns, kk, rfl, hS, hl, h0, h1, fun H2 f s nf hf => q f H2 s nf hf⟩
theorem q_feedE {a : Addr} {ns : List Int} {kk : Int} (e : σ[i]? = some (some (.ref a))) (h : Ev (K := K) (C := C) kI [] H tb σ kk) (hS : SqL K H a (ns.map V.int)) (hl : ns.length ≤ 63) (h0 : 0 ≤ kk) (h1 : kk < 10) (q : ∀ f H2, Same H H2 → H f = none → FeedAt H2 f → u D (σ.set m (some (.ref f))) H2) :
    tSeq (tAsg (tCall (spFeed K) [] C8.E0 (tCons (tVar i) (tCons tb tNil))) (gName m)) u D σ H := ⟨_, e, h.use fun v H2 s2 r => by
  cases (show v = .int kk from r)
  exact ⟨a, ns, kk, rfl, s2.seq hS, hl, h0, h1, fun H3 f s nf hf => q f H3 (s2.trans s) (s2.free nf) hf⟩⟩
theorem evf_add {c : Int} {Ψ : Int → Prop} (h : EvF (K := K) (C := C) f kI H tb σ Ψ) : EvF (K := K) (C := C) f kI H (tOp (rI0 fun i j => .int (i + j)) (tC (.int c)) tb) σ fun x => ∃ y, Ψ y ∧ x = c + y := fun Q q => h _ fun v H2 x e2 r ψ => by
  cases (show v = .int x from r)
  exact ⟨c, x, rfl, rfl, q _ H2 _ e2 rfl ⟨x, ψ, rfl⟩⟩
theorem ev_lenS {a : Addr} {xs : List V} (e : σ[i]? = some (some (.ref a))) (hS : SqL K H a xs) : Ev (K := K) (C := C) kI S H (tCB (rLen K) (tCons (tVar i) tNil)) σ (xs.length : Nat) := fun H1 s Q q => ⟨_, e, a, xs, rfl, .inl (s.seq hS), q _ H1 (Same.refl _) rfl⟩
end
end Ew
namespace Ew
open PySem PySem.Spec PyProof.Rows L2
theorem keysA_putE {c : LowD} {g : Int} {e : Swap} : keysA (putA c g e) = if g ∈ keysA c then keysA c else keysA c ++ [g] := by
  induction c with
  | nil => rfl
  | cons p c ih =>
    unfold putA
    by_cases hp : p.1 = g
    · rw [if_pos hp, if_pos (by simp [keysA, hp])]
      unfold keysA
      rw [List.map_cons, List.map_cons, hp]
    · rw [if_neg hp]
      unfold keysA at ih ⊢
      rw [List.map_cons, List.map_cons, ih]
      by_cases hm : g ∈ c.map (·.1)
      · rw [if_pos hm, if_pos (List.mem_cons_of_mem _ hm)]
      · rw [if_neg hm, if_neg (fun h => by
          rcases List.mem_cons.mp h with h | h
          · exact hp h.symm
          · exact hm h)]
        rfl
section
variable {K : PySem.W.Frag} {C : Addr} {α β γ δ : Type} {k : Kd K C α} {k1 : Kd K C β} {k2 : Kd K C γ} {k3' : Kd K C δ} {S : List Addr} {H H' : Hp} {σ : L2.St} {ta tb tc td : TE} {d : Addr} {low : LowD}
abbrev kSw : Kd K C Swap := k4 kI kI kI kI
theorem ev_t4 {x : α} {y : β} {z : γ} {u : δ} (ha : Ev k S H ta σ x) (hb : Ev k1 S H tb σ y) (hc : Ev k2 S H tc σ z) (hd : Ev k3' S H td σ u) : Ev (k4 k k1 k2 k3') S H (tTup (tCons ta (tCons tb (tCons tc (tCons td tNil))))) σ (x, y, z, u) := fun H1 s Q q =>
  ha H1 s _ fun v H2 s2 r => hb H2 (s.trans s2) _ fun w H3 s3 r3 => hc H3 (s.trans (s2.trans s3)) _ fun u' H4 s4 r4 => hd H4 (s.trans (s2.trans (s3.trans s4))) _ fun u5 H5 s5 r5 => ⟨szL (by simp), fun p hn => q _ _ (s2.trans (s3.trans (s4.trans (s5.trans (sameU hn)))))
    ⟨p, v, w, u', u5, rfl, .inl (.inl upd_same), k.same (s3.trans (s4.trans (s5.trans (sameU hn)))) r, k1.same (s4.trans (s5.trans (sameU hn))) r3, k2.same (s5.trans (sameU hn)) r4, k3'.same (sameU hn) r5⟩⟩
theorem ev_42' {y : α × β × γ × δ} (h : Ev (k4 k k1 k2 k3') S H ta σ y) : Ev k1 S H (tOp (rIxT K) ta (tC (.int 1))) σ y.2.1 :=
  ev_op2 h ev_int fun v w H1 _ e1 e2 Q q => by
    obtain ⟨t, v1, v2, v3, v4, rfl, h, r1, r2, r3, r4⟩ := e1
    exact ⟨t, _, 1, v2, rfl, e2, h, rfl, q _ H1 (Same.refl _) r2⟩
theorem gt4 {z : α × β × γ × δ} {v : V} {i j m n : Nat} {Q : L2.St → Hp → Prop} (hv : (k4 k k1 k2 k3').rp S H v z) (q : ∀ v1 v2 v3 v4, k.rp S H v1 z.1 → k1.rp S H v2 z.2.1 → k2.rp S H v3 z.2.2.1 → k3'.rp S H v4 z.2.2.2 → Q ((((σ.set i (some v1)).set j (some v2)).set m (some v3)).set n (some v4)) H) : gTup K 4 (gCons (gName i) (gCons (gName j) (gCons (gName m) (gCons (gName n) gNil)))) v σ H Q := by
  obtain ⟨t, v1, v2, v3, v4, rfl, hT, r1, r2, r3, r4⟩ := hv
  exact ⟨t, _, rfl, hT, rfl, v1, _, rfl, v2, _, rfl, v3, _, rfl, v4, _, rfl, rfl, q v1 v2 v3 v4 r1 r2 r3 r4⟩
/-- sorted(xs, reverse=True) -/
theorem evn_sortRev {l : List Int} (h : Ev (K := K) (C := C) (kL kI) S H ta σ l) (fr : Fr C S H) : EvN (K := K) (C := C) (kL kI) S H (tCKw (rSortedKw K true [.bl true]) (tCons ta tNil) (tCons (tC (.bl true)) tNil)) σ (srtD l) := fun H1 s Q q =>
  h H1 s _ fun v H2 s2 r => by
  obtain ⟨a, rfl, na, hA, hl⟩ := kL_ints r
  refine ⟨a, l, rfl, rfl, .inl (.inl hA), fun ns p hp ho np => ?_⟩
  have ho : ns.Pairwise (· ≥ ·) := ho
  have e : srtD l = ns := by
    unfold srtD
    have h2 : ns.reverse = srt l := asc_unique (List.pairwise_reverse.mpr ho) (srt_up _) ((List.reverse_perm _).trans (hp.trans (srt_perm _).symm))
    rw [← h2, List.reverse_reverse]
  refine q p _ (s2.free np) (s2.trans (sameU np)) ?_
  rw [e]
  exact ⟨p, _, rfl, (fr.same (s.trans s2)).out np, upd_same, paired_ints _, by rw [hp.length_eq]; exact hl⟩
/-! ### the dict of the last lowerings -/
def DicS (K : PySem.W.Frag) (C : Addr) (S : List Addr) (H : Hp) (d : Addr) (low : LowD) : Prop := ∃ kvs : List (Key × V), H d = some (.dK kvs) ∧ kvs.map (·.1) = (keysA low).map Sum.inl ∧ ∀ t ∈ keysA low, ∃ v, valV kvs (.inl t) = some v ∧ (kSw (K := K) (C := C)).rp S H v (getA low t)
theorem DicS.same (h : DicS K C S H d low) (s : Same H H') : DicS K C S H' d low := let ⟨kvs, e, h1, h2⟩ := h; ⟨kvs, s _ _ e, h1, fun t ht => let ⟨v, a, r⟩ := h2 t ht; ⟨v, a, kSw.same s r⟩⟩
theorem DicS.sx (h : DicS K C S H d low) (f : Fr C S H) (s : Sx C S H H') (e : H' d = H d) : DicS K C S H' d low := let ⟨kvs, e1, h1, h2⟩ := h; ⟨kvs, by rw [e, e1], h1, fun t ht => let ⟨v, a, r⟩ := h2 t ht; ⟨v, a, kSw.sx f s r⟩⟩
theorem DicS.new {p : Addr} (h : DicS K C S H d low) (n : H p = none) : DicS K C (p :: S) H d low := let ⟨kvs, e, h1, h2⟩ := h; ⟨kvs, e, h1, fun t ht => let ⟨v, a, r⟩ := h2 t ht; ⟨v, a, kSw.new n r⟩⟩
theorem DicS.less {T : List Addr} (h : DicS K C S H d low) (m : ∀ a ∈ T, a ∈ S) : DicS K C T H d low := let ⟨kvs, e, h1, h2⟩ := h; ⟨kvs, e, h1, fun t ht => let ⟨v, a, r⟩ := h2 t ht; ⟨v, a, kSw.less m r⟩⟩
theorem DicS.get (h : DicS K C S H d low) {t : Int} (ht : t ∈ keysA low) : ∃ v, DGet H d (.int t) (some v) ∧ (kSw (K := K) (C := C)).rp S H v (getA low t) := by
  obtain ⟨kvs, e, h1, h2⟩ := h
  obtain ⟨v, a, r⟩ := h2 t ht
  refine ⟨v, ?_, r⟩
  rw [← a]
  exact DGet.k (k := .inl t) e
theorem DicS.put (h : DicS K C S H d low) (f : Fr C S H) (hd : d ∈ S) {g : Int} {v : V} {e : Swap} (hv : (kSw (K := K) (C := C)).rp S H v e) (hl : low.length < 1000) : ∃ o, DPut H d (.int g) v (upd H d (.dK o)) ∧ DicS K C S (upd H d (.dK o)) d (putA low g e) := by
  obtain ⟨kvs, e1, h1, h2⟩ := h
  have hlen : kvs.length = low.length := by
    have := congrArg List.length h1
    rw [List.length_map, List.length_map] at this
    rw [this]
    exact List.length_map _
  have sx : Sx C S H (upd H d (.dK (putK kvs (.inl g) v))) := sx_upd f hd trivial
  refine ⟨putK kvs (.inl g) v, DPut.k (k := .inl g) e1 (szl (by omega)), _, upd_same, ?_, fun t ht => ?_⟩
  · rw [keysA_putE]
    have hany : (kvs.any fun kv => decide (kv.1 = Sum.inl g)) = decide (g ∈ keysA low) := by
      have : (kvs.any fun kv => decide (kv.1 = Sum.inl g)) = (kvs.map (·.1)).any fun x => decide (x = Sum.inl g) := by rw [List.any_map]; rfl
      rw [this, h1, List.any_map, Bool.eq_iff_iff, List.any_eq_true, decide_eq_true_eq]
      constructor
      · rintro ⟨x, hx, hh⟩
        have : (Sum.inl x : Key) = Sum.inl g := of_decide_eq_true hh
        cases this
        exact hx
      · exact fun hg => ⟨g, hg, decide_eq_true rfl⟩
    unfold putK
    rw [hany]
    by_cases hg : g ∈ keysA low
    · rw [if_pos (decide_eq_true hg), if_pos hg, List.map_map, ← h1]
      refine List.map_congr_left fun kv _ => ?_
      show (if kv.1 = Sum.inl g then (kv.1, v) else kv).1 = kv.1
      split <;> rfl
    · rw [if_neg (by simp [hg]), if_neg hg, List.map_append, List.map_append, h1]
      rfl
  · rw [valV_put, getA_put]
    by_cases htg : t = g
    · subst htg
      rw [if_pos rfl, if_pos rfl]
      exact ⟨v, rfl, kSw.sx f sx hv⟩
    · rw [if_neg (fun z => htg (by cases z; rfl)), if_neg htg]
      obtain ⟨v', a, r⟩ := h2 t ((keysA_put.mp ht).resolve_left htg)
      exact ⟨v', a, kSw.sx f sx r⟩
/-- d[t], t an int that an expression gives -/
theorem ev_dget {t : Int} (h : DicS K C S H d low) (ht : t ∈ keysA low) {i : Nat} (e1 : σ[i]? = some (some (.ref d))) (hb : Ev (K := K) (C := C) kI S H tb σ t) : Ev (kSw (K := K) (C := C)) S H (tDGet (tVar i) tb) σ (getA low t) := fun H1 s Q q => by
  refine ⟨_, e1, hb H1 s _ fun w H2 s2 r => ?_⟩
  cases (show w = .int t from r)
  obtain ⟨v, g, r2⟩ := (h.same (s.trans s2)).get ht
  exact ⟨d, v, rfl, g, q v H2 s2 r2⟩
end
end Ew
namespace Ew
open PySem PySem.Spec PyProof.Rows L2
/-! ### slices -/
section
variable {K : PySem.W.Frag} {C : Addr} {α : Type} {k : Kd K C α} {S : List Addr} {H : Hp} {σ : L2.St} {ta tb : TE} {l : List α}
/-- l[1:] -/
theorem evn_drop1 (h : Ev (kL k) S H ta σ l) (fr : Fr C S H) : EvN (kL k) S H (tSl (rSlL K) ta (tPart (tC (.int 1))) tNoPart) σ (l.drop 1) := fun H1 s Q q => h H1 s _ fun v H2 s2 r => by
  obtain ⟨a, us, rfl, na, hA, hP, hl⟩ := r
  refine ⟨1, rfl, a, us, rfl, .inl (.inl hA), fun c nc => ?_⟩
  rw [show cutV us (some 1) none = us.drop 1 from cut_from us 1]
  exact q c _ (s2.free nc) (s2.trans (sameU nc)) ⟨c, _, rfl, (fr.same (s.trans s2)).out nc, upd_same, Paired.drop 1 (L2.Paired.mapP hP fun _ _ z => k.same (sameU nc) z), Nat.le_trans (by rw [List.length_drop]; omega) hl⟩
/-- l[:e] -/
theorem evn_takeE {e : Int} (h : Ev (kL k) S H ta σ l) (g : Ev (K := K) (C := C) kI S H tb σ e) (he : 0 ≤ e) (fr : Fr C S H) : EvN (kL k) S H (tSl (rSlL K) ta tNoPart (tPart tb)) σ (l.take e.toNat) := fun H1 s Q q => h H1 s _ fun v H2 s2 r => g H2 (s.trans s2) _ fun w H3 s3 r3 => by
  cases (show w = .int e from r3)
  obtain ⟨a, us, rfl, na, hA, hP, hl⟩ := r
  refine ⟨e, rfl, a, us, rfl, .inl (.inl (s3 _ _ hA)), fun c nc => ?_⟩
  have ec : cutV us none (some e) = us.take e.toNat := by
    unfold cutV
    have e1 : HT.sIx us.length 0 none = 0 := rfl
    have e2 : HT.sIx us.length us.length (some e) = min e.toNat us.length := by
      show (if e < 0 then (e + (us.length : Nat)).toNat else min e.toNat us.length) = _
      rw [if_neg (by omega)]
    rw [e1, e2, List.drop_zero, Nat.sub_zero]
    rcases Nat.le_total e.toNat us.length with h | h
    · rw [Nat.min_eq_left h]
    · rw [Nat.min_eq_right h, List.take_length, List.take_of_length_le h]
  rw [ec]
  exact q c _ ((s2.trans s3).free nc) (s2.trans (s3.trans (sameU nc))) ⟨c, _, rfl, (fr.same (s.trans (s2.trans s3))).out nc, upd_same, Paired.take _ (L2.Paired.mapP hP fun _ _ z => k.same (s3.trans (sameU nc)) z), Nat.le_trans (by rw [List.length_take]; omega) hl⟩
end
end Ew
namespace Ew
open PySem PySem.Spec PyProof.Rows L2
section
variable {P : Program} {w : World} {K : PySem.W.Frag} {mg : Str → Option Value} {base : Heap} {C : Addr}
def sp_worth (K : PySem.W.Frag) (C : Addr) : Sp := spD (K := K) (C := C) (aC (kL (kT kI)) (aC kI (aC kI aN))) kI (fun (ws , r , z , _) => 0 ≤ r ∧ r < ws.length) fun (ws, r, z, _) => worthB ws r z
def sp_swaps_of_reader (K : PySem.W.Frag) (C : Addr) : Sp := spN (K := K) (C := C) (aC kBk (aC kWs (aC kWs (aC kI aN)))) (kL kSw) (fun a => RowsOk a.1 a.2.1 ∧ RowsOk a.1 a.2.2.1 ∧ 0 ≤ a.2.2.2.1 ∧ a.2.2.2.1 < a.1.rs.length) fun a => swapsB a.1 a.2.1 a.2.2.1 a.2.2.2.1
def sp_all_swaps (K : PySem.W.Frag) (C : Addr) : Sp := spN (K := K) (C := C) (aC kBk (aC kWs (aC kWs (aC (kT kI) aN)))) (kL kSw) (fun a => RowsOk a.1 a.2.1 ∧ RowsOk a.1 a.2.2.1) fun a => allSwB a.1 a.2.1 a.2.2.1 a.2.2.2.1
theorem swaps_cap {b : Bk} {ws bh : List (List Int)} {r : Int} (ok : DsOk b.ds b.rs) (hbh : RowsOk b bh) (hr : 0 ≤ r ∧ r < (b.rs.length : Int)) : (swapsB b ws bh r).length ≤ 49 := by
  have n6 := ok.n6
  have hfr : 0 ≤ r ∧ r < (bh.length : Int) := by have := hbh.1; omega
  have hm := ok.ok _ (at_mem hr)
  have hm6 : (at_ b.rs r).2.length ≤ 6 := by
    have := nd_len (nodup_asc hm.2.2.1) hm.2.2.2
    omega
  have hr6 : (at_ bh r).length ≤ 6 := by
    have := (hbh.2 r hfr).2.2
    have := hm.2.1
    omega
  have ho6 : (othersB b bh r).length ≤ 6 := Nat.le_trans (List.length_filter_le _ _) hm6
  have hg7 : (givenB b bh r).length ≤ 7 := by
    unfold givenB
    split
    · rw [List.length_append, List.length_singleton]; omega
    · omega
  have cap : ∀ (l : List Int) (m : List Int), m.length ≤ 7 → (l.flatMap fun g => m.map fun t => ((r, t, g, worthB ws r g - worthB ws r t) : Swap)).length ≤ l.length * 7 := fun l m hmm => by
    induction l with
    | nil => simp
    | cons x l ih =>
      rw [List.flatMap_cons, List.length_append, List.length_map, List.length_cons, Nat.succ_mul]
      omega
  have := cap (givenB b bh r) (othersB b bh r ++ [spB b]) (by rw [List.length_append, List.length_singleton]; omega)
  unfold swapsB
  omega
theorem allSw_cap {b : Bk} {ws bh : List (List Int)} (ok : DsOk b.ds b.rs) (hbh : RowsOk b bh) : ∀ {L : List Int}, (∀ r ∈ L, 0 ≤ r ∧ r < (b.rs.length : Int)) → (L.flatMap fun r => swapsB b ws bh r).length ≤ L.length * 49
  | [], _ => by simp
  | r :: L, h => by
    rw [List.flatMap_cons, List.length_append, List.length_cons, Nat.succ_mul]
    have := swaps_cap (ws := ws) ok hbh (h r (by simp))
    have := allSw_cap (ws := ws) ok hbh (L := L) fun x hx => h x (by simp [hx])
    omega
def sp_greatest_gain (K : PySem.W.Frag) (C : Addr) : Sp := spD (K := K) (C := C) (aC kBk (aC (kL (kT kI)) (aC kI (aC (kL kI) aN)))) kI (fun (b , ws , r , pr , _) => ws.length = b.rs.length ∧ (0 ≤ r ∧ r < b.rs.length) ∧ pr.length = b.ds.length) fun (b, ws, r, pr, _) => gainB b ws r pr
def sp_bound (K : PySem.W.Frag) (C : Addr) : Sp := spD (K := K) (C := C) (aC kBk (aC (kL (kT kI)) (aC (kT kI) (aC (kL kI) aN)))) kI (fun (b , ws , as , pr , _) => ws.length = b.rs.length ∧ pr.length = b.ds.length) fun (b, ws, as, pr, _) => boundB b ws as pr
end
end Ew
namespace Ew
open PySem PySem.Spec PyProof.Rows L2
/-! ### typed data -/
section
variable {K : PySem.W.Frag} {C : Addr} {α β : Type} {k : Kd K C α} {k1 : Kd K C β} {S : List Addr} {H : Hp} {σ : L2.St} {te ta tb : TE} {t : TA} {x : α} {xs : List α} {i p : Nat} {D : Ends} {u : TS}
def EvLs (k : Kd K C α) (S : List Addr) (H : Hp) (t : TA) (σ : L2.St) (xs : List α) : Prop := ∀ H1, Same H H1 → ∀ Q : List V → Hp → Prop, (∀ vs H2, Same H1 H2 → Paired (k.rp S H2) vs xs → Q vs H2) → t σ H1 Q
theorem evl_nil : EvLs k S H tNil σ [] := fun H1 _ Q q => q [] H1 (Same.refl _) .nil
theorem evl_cons (h : Ev k S H ta σ x) (g : EvLs k S H t σ xs) : EvLs k S H (tCons ta t) σ (x :: xs) := fun H1 s Q q =>
  h H1 s _ fun v H2 s2 r => g H2 (s.trans s2) _ fun vs H3 s3 rs => q _ H3 (s2.trans s3) (.cons (k.same s3 r) rs)
theorem evn_lst (h : EvLs k S H t σ xs) (fr : Fr C S H) (hl : xs.length ≤ 1000000 := by simp) : EvN (kL k) S H (tLst t) σ xs := fun H1 s Q q =>
  h H1 s _ fun vs H2 s2 r => ⟨Nat.le_of_lt (szl (by rw [pLen r]; exact hl)), fun p hn => q _ _ (s2.free hn) (s2.trans (sameU hn)) ⟨p, vs, rfl, (fr.same (s.trans s2)).out hn, upd_same, L2.Paired.mapP r fun _ _ z => k.same (sameU hn) z, hl⟩⟩
theorem ev_tupD (h : EvLs k S H t σ xs) (hl : xs.length ≤ 1000000 := by simp) : Ev (kT k) S H (tTup t) σ xs := fun H1 s Q q =>
  h H1 s _ fun vs H2 s2 r => ⟨Nat.le_of_lt (szl (by rw [pLen r]; exact hl)), fun p hn => q _ _ (s2.trans (sameU hn)) ⟨p, vs, rfl, .inl (.inl upd_same), L2.Paired.mapP r fun _ _ z => k.same (sameU hn) z, hl⟩⟩
theorem paired_rep {R : V → α → Prop} {v : V} (h : R v x) : ∀ n : Nat, Paired R (List.replicate n v) (List.replicate n x)
  | 0 => .nil
  | n + 1 => .cons h (paired_rep h n)
theorem flat_rep {γ : Type} (v : γ) : ∀ n : Nat, (List.replicate n [v]).flatten = List.replicate n v
  | 0 => rfl
  | n + 1 => by rw [List.replicate_succ, List.flatten_cons, flat_rep v n]; rfl
/-- [x] * n -/
theorem evn_rep {n : Int} (h : Ev k S H ta σ x) (g : Ev (K := K) (C := C) kI S H tb σ n) (fr : Fr C S H) (h0 : 0 ≤ n) (h1 : n ≤ 1000) : EvN (kL k) S H (tOp rRep (tLst (tCons ta tNil)) tb) σ (List.replicate n.toNat x) := fun H1 s Q q =>
  h H1 s _ fun v H2 s2 r => ⟨szL (by simp), fun p hn => g _ (s.trans (s2.trans (sameU hn))) _ fun w H3 s3 r3 => by
  cases (show w = .int n from r3)
  refine ⟨p, n, _, rfl, rfl, s3 _ _ upd_same, by omega, by omega, Nat.le_trans (by simp; omega) (Nat.le_of_lt big_line), fun p2 hn2 => ?_⟩
  rw [flat_rep]
  have sA : Same H2 (upd H3 p2 (.lst (List.replicate n.toNat v))) := (sameU hn).trans (s3.trans (sameU hn2))
  refine q _ _ (s2.free ((sameU hn).free (s3.free hn2))) (s2.trans sA) ⟨p2, _, rfl, (fr.same (s.trans (s2.trans ((sameU hn).trans s3)))).out hn2, upd_same, paired_rep (k.same sA r) _, by rw [List.length_replicate]; omega⟩⟩
/-- a list that is the frame's own -/
theorem bls_paired' (l : List Bool) : Paired ((kB (K := K) (C := C)).rp S H) (l.map V.bl) l := by
  induction l with
  | nil => exact .nil
  | cons a t ih => exact .cons rfl ih
theorem q_own {l : List Bool} (h : EvN (K := K) (C := C) (kL kB) S H te σ l) (fr : Fr C S H) (q : ∀ p H2, H p = none → Same H H2 → Fr C (p :: S) H2 → Lf K C S H (p :: S) H2 → H2 p = some (.lst (l.map V.bl)) → u D (σ.set i (some (.ref p))) H2) : tSeq (tAsg te (gName i)) u D σ H :=
  h.use fun p H2 n s r => by
  obtain ⟨p', vs, e, np, hp, hP, _⟩ := r
  cases e
  rw [bls_paired hP] at hp
  exact q p H2 n s (fun a m => by
    rcases List.mem_cons.mp m with rfl | m
    · exact ⟨_, hp, trivial⟩
    · exact (fr.same s) a m) ⟨fun k v x h => k.same s (k.new n h), s.tab⟩ hp
theorem q_app {l : List Bool} {b : Bool} (e : σ[i]? = some (some (.ref p))) (hp : H p = some (.lst (l.map V.bl))) (m : p ∈ S) (fr : Fr C S H) (h : Ev (K := K) (C := C) kB S H te σ b) (hl : l.length ≤ 1000) (q : ∀ H2, Fr C S H2 → Lf K C S H S H2 → (∀ H0, Same H0 H → H0 p = none → Same H0 H2) → H2 p = some (.lst ((l ++ [b]).map V.bl)) → u D σ H2) :
    tSeq (tDrop (tBM K "list" rAppend (tVar i) (tCons te tNil))) u D σ H := by
  refine ⟨_, e, .inl ⟨rfl, _, .inl (.inl hp)⟩, h.use fun v H2 s r => ?_⟩
  cases (show v = .bl b from r)
  have hp2 := s _ _ hp
  have fr2 := fr.same s
  refine ⟨p, _, .bl b, rfl, rfl, hp2, szl (by rw [List.length_map]; omega), ?_⟩
  have sx : Sx C S H2 (upd H2 p (.lst (l.map V.bl ++ [.bl b]))) := sx_upd fr2 m trivial
  refine q _ sx.fr ((Lf.same s).trans (.sx fr2 sx)) (fun H0 s0 n => sameOwn (s0.trans s) n) ?_
  rw [upd_same, List.map_append]
  rfl
/-- the own list + another -/
theorem evn_catO {l m : List Bool} (e : σ[i]? = some (some (.ref p))) (hp : H p = some (.lst (l.map V.bl))) (g : Ev (K := K) (C := C) (kL kB) S H tb σ m) (fr : Fr C S H) (hl : l.length + m.length ≤ 1000) : EvN (K := K) (C := C) (kL kB) S H (tOp rCat (tVar i) tb) σ (l ++ m) := fun H1 s Q q => ⟨_, e, g H1 s _ fun w H3 s3 r3 => by
  obtain ⟨b, ws, rfl, _, hw, hP, _⟩ := r3
  rw [bls_paired hP] at hw
  refine ⟨p, b, _, _, rfl, rfl, s3 _ _ (s _ _ hp), hw, Nat.le_trans (by rw [List.length_map, List.length_map]; exact hl) (Nat.le_of_lt (szl (by omega))), fun c hn => ?_⟩
  refine q c _ (s3.free hn) (s3.trans (sameU hn)) ⟨c, _, rfl, (fr.same (s.trans s3)).out hn, upd_same, ?_, by rw [List.length_append]; omega⟩
  rw [← List.map_append]
  exact bls_paired' _⟩
/-- what extension told, as a pair -/
theorem ev_extP {g : List (List Int)} (h : Ev (K := K) (C := C) kExt S H te σ (.inl g)) : Ev (K := K) (C := C) (kP kS kWs) S H te σ ("yes", g) := fun H1 s Q q => h H1 s _ fun v H2 s2 r => by
  obtain ⟨t, w, rfl, hT, hw⟩ := r
  exact q _ H2 s2 ⟨t, _, w, rfl, hT, rfl, hw⟩
def wordW {γ δ : Type} (a b : Str) : γ ⊕ δ → Str
  | .inl _ => a
  | .inr _ => b
theorem ev_W0 {a b : Str} {y : α ⊕ β} (h : Ev (kW a b k k1) S H ta σ y) : Ev (K := K) (C := C) kS S H (tOp (rIxT K) ta (tC (.int 0))) σ (wordW a b y) :=
  ev_op2 h ev_int fun v w H1 _ e1 e2 Q q => by
    obtain ⟨t, z, rfl, h⟩ := e1
    cases y with
    | inl y => exact ⟨t, _, 0, _, rfl, e2, h.1, rfl, q _ H1 (Same.refl _) rfl⟩
    | inr y => exact ⟨t, _, 0, _, rfl, e2, h.1, rfl, q _ H1 (Same.refl _) rfl⟩
end
/-! what is known by trying all limits -/
theorem limB {l m : Int} {p : Int → Bool} (h0 : 1 ≤ l) (h1 : l ≤ m) (h : ∀ n ∈ List.range m.toNat, p ((n : Int) + 1) = true) : p l = true := by
  have := h (l - 1).toNat (List.mem_range.mpr (by omega))
  rw [show (((l - 1).toNat : Nat) : Int) + 1 = l by omega] at this
  exact this
theorem limA {m : Int} {p : Int → Bool} (h : ∀ n ∈ List.range m.toNat, p ((n : Int) + 1) = true) : ∀ l : Int, 1 ≤ l → l ≤ m → p l = true := fun _ h0 h1 => limB h0 h1 h
theorem limP {m : Int} {p : Int → Prop} [∀ n, Decidable (p n)] (h : ∀ n ∈ List.range m.toNat, p ((n : Int) + 1)) : ∀ l : Int, 1 ≤ l → l ≤ m → p l := fun _ h0 h1 => of_decide_eq_true (limB (p := fun n => decide (p n)) h0 h1 fun n hn => decide_eq_true (h n hn))
def dsOkB (ds : List Int) (rs : List (Int × List Int)) : Bool := decide (1 ≤ ds.length) && (decide (ds.length ≤ 6) && (ds.all (fun d => decide (0 ≤ d) && decide (d ≤ 6)) && (decide (rs.length ≤ 6) && rs.all fun r => decide (0 ≤ r.1) && (decide (r.1 ≤ 6) && (decide (r.2.Pairwise (· < ·)) && r.2.all fun x => decide (0 ≤ x) && decide (x < (ds.length : Int)))))))
theorem dsOk_B {ds : List Int} {rs : List (Int × List Int)} (h : dsOkB ds rs = true) : DsOk ds rs := by
  unfold dsOkB at h
  simp only [Bool.and_eq_true, decide_eq_true_eq, List.all_eq_true] at h
  obtain ⟨h1, h2, h3, h4, h5⟩ := h
  exact ⟨h1, h2, h3, h4, fun r hr => ⟨(h5 r hr).1, (h5 r hr).2.1, (h5 r hr).2.2.1, fun x hx => (h5 r hr).2.2.2 x hx⟩⟩
theorem rowsOk_B {b : Bk} {ws : List (List Int)} (h : rowsB ws b.rs = true) : RowsOk b ws := by
  unfold rowsB at h
  obtain ⟨h1, h2⟩ := Bool.and_eq_true_iff.mp h
  have h1 := of_decide_eq_true h1
  refine ⟨h1, fun i hi => ?_⟩
  have hr : 0 ≤ i ∧ i < b.rs.length := by omega
  have m : (at_ ws i, at_ b.rs i) ∈ ws.zip b.rs := by
    have e1 := at_get hi
    have e2 := at_get hr
    exact List.mem_of_getElem? (List.getElem?_zip_eq_some.mpr ⟨e1, e2⟩)
  exact of_decide_eq_true (List.all_eq_true.mp h2 _ m)
end Ew
namespace Ew
open PySem PySem.Spec PyProof.Rows L2
section
variable {P : Program} {w : World} {K : PySem.W.Frag} {mg : Str → Option Value} {base : Heap} {C : Addr}
def sp_ring_before (K : PySem.W.Frag) (C : Addr) : Sp := fun vs H Q _ => ∃ (S : List Addr) (d : Addr) (low : LowD) (work many : Int) (m : Nat), Fr C S H ∧ vs = [.ref d, .int work, .int many] ∧ DicS K C S H d low ∧ 0 ≤ many ∧ many ≤ 100 ∧ (∀ k, k < many.toNat → iterA low k work ∈ keysA low) ∧ (∀ k, iterA low k (iterA low many.toNat work) ∈ keysA low) ∧ m ≤ many.toNat ∧ Closes low (iterA low many.toNat work) m ∧
  ∀ p H', H p = none → Same H H' → (kL (kSw (K := K) (C := C))).rp S H' (.ref p) (ringB low work many) → Q (.ref p) H'
theorem ringB_eq {low : LowD} {work n : Int} {m : Nat} (c : Closes low (iterA low n.toNat work) m) (hm : m ≤ n.toNat) : ringB low work n = (List.range m).map fun k => getA low (iterA low k (iterA low n.toNat work)) := by
  unfold ringB
  have := ringGo_len c (k := 0) (fuel := n.toNat + 1) c.pos (by omega)
  rw [Nat.sub_zero] at this
  rw [show iterA low 0 (iterA low n.toNat work) = iterA low n.toNat work from rfl] at this
  rw [this]
  exact List.map_congr_left fun i _ => by rw [Nat.zero_add]
/-- l[-1] -/
theorem ev_lastL {K : PySem.W.Frag} {C : Addr} {α : Type} [Inhabited α] {k : Kd K C α} {S : List Addr} {H : Hp} {σ : L2.St} {ta : TE} {l : List α} (ha : Ev (kL k) S H ta σ l) (hc : 0 < l.length) : Ev k S H (tOp (rIxL K) ta (tUn (rU fun i => .int (-i)) (tC (.int 1)))) σ (at_ l ((l.length : Int) - 1)) :=
  ev_op2 ha (ev_neg ev_int) fun v w H1 _ e1 e2 Q q => by
    obtain ⟨a, vs, rfl, _, h, p, _⟩ := e1
    have hl := pLen p
    obtain ⟨u, hu, r⟩ := atI_at (i := (l.length : Int) - 1) p (by omega)
    refine ⟨a, vs, -1, u, rfl, e2, .inl (.inl h), ?_, q _ H1 (Same.refl _) r⟩
    have e : atI vs (-1) = atI vs ((l.length : Int) - 1) := by
      unfold atI ixN
      rw [if_neg (by omega), if_pos (by omega), if_pos (by omega), if_pos (by omega)]
      congr 1
      show some _ = some _
      congr 1
      omega
    rw [e]
    exact hu
/-- the dict's keys stay few -/
structure LowOk (n : Int) (low : LowD) : Prop where
  nd : (keysA low).Nodup
  rg : ∀ k ∈ keysA low, 0 ≤ k ∧ k < n
theorem LowOk.put {n : Int} {low : LowD} {g : Int} {e : Swap} (h : LowOk n low) (hg : 0 ≤ g ∧ g < n) : LowOk n (putA low g e) := by
  constructor
  · rw [keysA_putE]
    split
    · exact h.nd
    · rename_i hn
      exact List.nodup_append.mpr ⟨h.nd, by simp, fun a ha b hb hab => hn (by rw [← List.mem_singleton.mp hb, ← hab]; exact ha)⟩
  · intro k hk
    rcases keysA_put.mp hk with rfl | hk
    · exact hg
    · exact h.rg k hk
theorem LowOk.len {n : Int} {low : LowD} (h : LowOk n low) (hn : n ≤ 100) : low.length < 1000 := by
  have h1 := nd_len (n := n.toNat) h.nd fun g hg => by have := h.rg g hg; omega
  unfold keysA at h1
  rw [List.length_map] at h1
  omega
def lastV : Option Int → V
  | none => .non
  | some v => .int v
def sp_prices_or_ring (K : PySem.W.Frag) (C : Addr) : Sp := spD (K := K) (C := C) (aC kI (aC (kL kSw) aN)) (kP (kL kI) (kL kSw)) (fun a => EOk a.1 a.2.1 ∧ 1 ≤ a.1 ∧ a.1 ≤ 100) fun a => pricesB a.1 a.2.1
end
end Ew
namespace Ew
open PySem PySem.Spec PyProof.Rows L2
section
variable {P : Program} {w : World} {K : PySem.W.Frag} {mg : Str → Option Value} {base : Heap} {C : Addr}
def sp_swapped (K : PySem.W.Frag) (C : Addr) : Sp := spN (K := K) (C := C) (aC kWs (aC (kL kSw) (aC kI aN))) kWs (fun a => (∀ e ∈ a.2.1, 0 ≤ e.1 ∧ e.1 < (a.1.length : Int)) ∧ (∀ w ∈ a.1, w.length ≤ 6) ∧ a.2.1.length ≤ 30) fun a => swappedB a.1 a.2.1 a.2.2.1
theorem fold_row : ∀ {L : List Swap} {f : List (List Int)} {B : Nat}, (∀ e ∈ L, 0 ≤ e.1 ∧ e.1 < (f.length : Int)) → (∀ w ∈ f, w.length ≤ B) → ∀ w ∈ swFold f L, w.length ≤ B + L.length
  | [], f, B, _, h => fun w hw => h w hw
  | e :: L, f, B, hr, h => fun w hw => by
    have he := hr e (by simp)
    have h1 : ∀ w ∈ swStep f e, w.length ≤ B + 1 := fun w hw => by
      rcases List.mem_or_eq_of_mem_set hw with hw | rfl
      · have := h w hw
        omega
      · rw [List.length_append, List.length_singleton]
        have := List.length_filter_le (fun z => !decide (z = e.2.2.1)) (at_ f e.1)
        have := h _ (at_mem he)
        omega
    have := fold_row (L := L) (f := swStep f e) (B := B + 1) (fun e' h' => by rw [sw_len]; exact hr e' (by simp [h'])) h1 w hw
    rw [List.length_cons]
    omega
theorem paired_set {α : Type} {R : V → α → Prop} {x : α} {v : V} (hx : R v x) : ∀ {us : List V} {l : List α} (i : Nat), Paired R us l → Paired R (us.set i v) (l.set i x)
  | _, _, _, .nil => .nil
  | _, _, 0, .cons _ t => .cons hx t
  | _, _, i + 1, .cons r t => .cons r (paired_set hx i t)
theorem s_asgN {α : Type} {k : Kd K C α} {S : List Addr} {H : Hp} {te : TE} {σ : L2.St} {x : α} {g : TG} {D : Ends} (h : EvN k S H te σ x) (q : ∀ p H2, H p = none → Same H H2 → k.rp S H2 (.ref p) x → g (.ref p) σ H2 D.nx) : tAsg te g D σ H := h.use q
end
end Ew
namespace Ew
open PySem PySem.Spec PyProof.Rows L2
theorem h_set2 {K : PySem.W.Frag} {C : Addr} {α β : Type} {k : Kd K C α} {k1 : Kd K C β} {S : List Addr} {H : Hp} {σ : L2.St} {te : TE} {D : Ends} {i j : Nat} {z : α × β} (h : Ev (kP k k1) S H te σ z) (q : ∀ v1 v2 H2, Same H H2 → k.rp S H2 v1 z.1 → k1.rp S H2 v2 z.2 → D.nx ((σ.set i (some v1)).set j (some v2)) H2) : tAsg te (gTup K 2 (gCons (gName i) (gCons (gName j) gNil))) D σ H :=
  h.use fun v H2 s ⟨t, v1, v2, e, hT, r1, r2⟩ => ⟨t, _, e, hT, rfl, v1, _, rfl, v2, _, rfl, rfl, q v1 v2 H2 s r1 r2⟩
section
variable {P : Program} {w : World} {K : PySem.W.Frag} {mg : Str → Option Value} {base : Heap} {C SB RE : Addr}
abbrev sSome : Stmt := (top 39)
def sp_some_good_rows (K : PySem.W.Frag) (C SB : Addr) : Sp := fun vs H Q E => ∃ S a, Fr C S H ∧ (aC kBk (aC (kT kI) aN) : Ka K C (Bk × List Int × Unit)).rps S H vs a ∧
  (∀ f, extB a.1 (noRowsB a.1) a.2.1 = .inl f → ∀ p H', H p = none → Same H H' → (kWs (K := K) (C := C)).rp S H' (.ref p) f → Q (.ref p) H') ∧
  (∀ l, extB a.1 (noRowsB a.1) a.2.1 = .inr l → ∀ dx Hf wv, Same H Hf → H dx = none → Hf dx = some (.xd [(("works" : Str), wv)]) → (kT (kI (K := K) (C := C))).rp S Hf wv l → E (.ref SB) (some dx) Hf)
theorem scSome : FnScope ["book", "absent", "kind", "found"] ["book", "absent"] (defScope sSome) := ⟨rfl, rfl, rfl, by decide +kernel, rfl, by decide +kernel, by decide +kernel⟩
set_option maxHeartbeats 0 in
theorem c_some_good_rows (D : DefAt K mg "some_good_rows" sSome ["book", "absent"]) (B : Bi mg) (TS : ShTxt K mg SB RE) (c_good_rows : C8.Cal P w K mg base 7 "good_rows" (sp_good_rows K C) []) : CalX P w K mg base 8 "some_good_rows" (sp_some_good_rows K C SB) := by
  obtain ⟨fB, fdB, FB, bB, iB, tB⟩ := TS.init
  have GB : FnOk P w K mg base CX0 1 fB fdB ["self", "works"] (spSh SB) := ok_shI FB TS
  refine calX_of D scSome (fun vs H Q E h => ?_) fun f fd F => ?_
  · obtain ⟨S, a, _, h, _⟩ := h
    rw [Ka.len _ h]
    rfl
  refine F.okX scSome (fun vs H Q E h => ?_) (fun cdv A outer s H vs Q E hr h => ?_)
  · obtain ⟨S, a, _, h, _⟩ := h
    rw [Ka.len _ h]
    rfl
  obtain ⟨S, ⟨b, as, _⟩, fr, h, qQ, qE⟩ := h
  obtain ⟨w_book, _, rfl, h_book, w_absent, _, rfl, h_absent, e⟩ := h
  cases (show _ = [] from e)
  have h_book : (kBk : Kd K C _).rp S H w_book b := h_book
  have h_absent : (kT kI : Kd K C _).rp S H w_absent as := h_absent
  have qQ : ∀ f, extB b (noRowsB b) as = .inl f → ∀ p H', H p = none → Same H H' → (kWs (K := K) (C := C)).rp S H' (.ref p) f → Q (.ref p) H' := qQ
  have qE : ∀ l, extB b (noRowsB b) as = .inr l → ∀ dx Hf wv, Same H Hf → H dx = none → Hf dx = some (.xd [(("works" : Str), wv)]) → (kT (kI (K := K) (C := C))).rp S Hf wv l → E (.ref SB) (some dx) Hf := qE
  have hr2 := hr.mono (show 2 ≤ 7 by decide)
  refine ⟨_, (pss_cons (ps_asg (C8.pe_c c_good_rows hr (by decide) (by rfl) (pa_cons (pv 0) (pa_cons (pv 1) pa_nil))) (pg_tup (by rfl) (pgs_cons (pg_name (i := 2) scSome.nd rfl (.inl rfl)) (pgs_cons (pg_name (i := 3) scSome.nd rfl (.inl rfl)) pgs_nil))))
 (pss_cons (ps_if (pt_cmpR op_eq (pv 2) pe_str (nomark _)) (pss_one (ps_raise rfl (takes_of rfl rfl rfl rfl) (pmk_oex TS.ox iB tB GB hr2 bB .nil pass0 (by rfl) TS.gB (pa_cons (pv 3) pa_nil)))) pss_nil)
 (pss_one (ps_ret (pv 3))))), ?_⟩
  try dsimp only [cxOf, Cx.nox, Cx.wish]
  refine r_good (S := S) (b := b) (as := as) (eva_cons (ev_var (i := 0) rfl h_book Lf.refl) (eva_cons (ev_var (i := 1) rfl h_absent Lf.refl) eva_nil)) fr fun wf H2 s2 hf2 hfresh => ?_
  cases hx : extB b (noRowsB b) as with
  | inl g =>
    obtain ⟨t, p, rfl, hT, hpn, hP⟩ := hfresh g hx
    refine ⟨t, _, rfl, .inl (.inl hT), rfl, _, _, rfl, _, _, rfl, rfl, ?_⟩
    have hws' : (kS : Kd K C _).rp S H2 (.str "yes") "yes" := rfl
    try dsimp only
    refine q_if (evt_test (ev_eqS (ev_var (i := 2) rfl hws' Lf.refl) ev_str)) (fun H3 hc s3 => absurd hc (by decide +kernel)) fun H3 hc s3 => ?_
    exact ⟨_, rfl, qQ g hx p H3 hpn (s2.trans s3) ((kWs : Kd K C _).same s3 hP)⟩
  | inr l =>
    rw [hx] at hf2
    obtain ⟨t, wv, rfl, hT, hl⟩ := hf2
    refine ⟨t, _, rfl, hT, rfl, _, _, rfl, _, _, rfl, rfl, ?_⟩
    have hws' : (kS : Kd K C _).rp S H2 (.str "no") "no" := rfl
    try dsimp only
    refine q_if (evt_test (ev_eqS (ev_var (i := 2) rfl hws' Lf.refl) ev_str)) (fun H3 hc s3 => ?_) fun H3 hc s3 => absurd hc (by decide +kernel)
    exact ⟨_, rfl, raisedS fun dx Hf s1 n1 h1 => qE l hx dx Hf _ (s2.trans (s3.trans s1)) ((s2.trans s3).free n1) h1 ((kT kI : Kd K C _).same (s3.trans s1) hl)⟩

theorem good_start {b : Bk} {as : List Int} {f : List (List Int)} (ok : DsOk b.ds b.rs) (h : extB b (noRowsB b) as = .inl f) : GoodR b as f := by
  have xr := ext_right (as := as) ok (noRows_ok ok)
  rw [h] at xr
  obtain ⟨_, E1, hc⟩ := xr
  have e0 : ∀ z : Int, cntW (withB (noRowsB b) as) z = 0 := fun z => by
    have h0 : ∀ w ∈ withB (noRowsB b) as, w = [] := fun w hw => by
      unfold withB at hw
      obtain ⟨p, hp, rfl⟩ := List.mem_map.mp hw
      obtain ⟨i, hi⟩ := List.mem_iff_getElem?.mp hp
      have e2 := (enum_at hi).2
      have m := List.mem_of_getElem? e2
      unfold noRowsB at m
      obtain ⟨_, _, e⟩ := List.mem_map.mp m
      split
      · rfl
      · exact e.symm
    unfold cntW
    rw [List.filter_eq_nil_iff.mpr fun w hw => by rw [h0 w hw]; simp]
    rfl
  refine ⟨E1.ok, E1.abs, fun z hz => ?_⟩
  rw [hc z hz, e0]
  have hm := at_mem (l := b.ds) (i := z) (by omega)
  have hd := (ok.d6 _ hm).1
  omega
def relaidN (b : Bk) (ws : List (List Int)) (as : List Int) (f0 : List (List Int)) : Int := keptB b ws (relGo b ws as 40 f0).1
theorem number_eq {b : Bk} {ws f : List (List Int)} (dk : DsOk b.ds b.rs) (ok : RowsOk b f) : ((enum f).flatMap fun p => p.2.map fun z => worthB ws p.1 z).sum = keptB b ws f := by
  have e : enum f = (iota (f.length : Nat)).map fun r => (r, at_ f r) := by
    have := enum_map (fun r => at_ f r) (f.length : Nat)
    rw [← rows_iota] at this
    exact this
  unfold keptB keptR
  rw [e]
  have h : ∀ L : List Int, (∀ r ∈ L, 0 ≤ r ∧ r < (f.length : Int)) → ((L.map fun r => (r, at_ f r)).flatMap fun p => p.2.map fun z => worthB ws p.1 z).sum = (L.map fun r => ((realS (spB b) (at_ f r)).map (worthB ws r)).sum).sum := fun L => by
    induction L with
    | nil => intro _; rfl
    | cons r L ih =>
      intro hL
      rw [List.map_cons, List.flatMap_cons, List.sum_append, List.map_cons, List.sum_cons, ih fun x hx => hL x (by simp [hx]), real_self dk ok (hL r (by simp))]
  exact h _ fun r hr => iota_mem.mp hr
def sp_relaid (K : PySem.W.Frag) (C SB : Addr) : Sp := fun vs H Q E => ∃ S a, Fr C S H ∧ (aC kBk (aC kWs (aC (kT kI) aN)) : Ka K C (Bk × List (List Int) × List Int × Unit)).rps S H vs a ∧ RowsOk a.1 a.2.1 ∧
  (∀ f, extB a.1 (noRowsB a.1) a.2.2.1 = .inl f → ∀ t p1 p2 H', H p1 = none → H p2 = none → p1 ≠ p2 → Same H H' → H' t = some (.tup [.int (relaidN a.1 a.2.1 a.2.2.1 f), .ref p1, .ref p2]) → (kWs (K := K) (C := C)).rp S H' (.ref p1) (relGo a.1 a.2.1 a.2.2.1 40 f).1 → (kL (kI (K := K) (C := C))).rp S H' (.ref p2) (shiftB a.1 (relGo a.1 a.2.1 a.2.2.1 40 f).2) → Q (.ref t) H') ∧
  (∀ l, extB a.1 (noRowsB a.1) a.2.2.1 = .inr l → ∀ dx Hf wv, Same H Hf → H dx = none → Hf dx = some (.xd [(("works" : Str), wv)]) → (kT (kI (K := K) (C := C))).rp S Hf wv l → E (.ref SB) (some dx) Hf)
end
end Ew
namespace Ew
open PySem PySem.Spec PyProof.Rows L2
/-! ### draws within expressions -/
/-- a value that stands -/
def tK (v : V) : TE := fun _ H Q => Q v H
section
variable {K : PySem.W.Frag} {C : Addr} {α β : Type} {k : Kd K C α} {k1 : Kd K C β} {S : List Addr} {H : Hp} {σ : L2.St} {te ta tb : TE} {tt : TT} {t : TA} {x : α} {f : Addr} {Φ Ψ : α → Prop} {D : Ends} {g : TG} {u : TS} {b : Bool}
theorem ev_tK {v : V} (h : k.rp S H v x) : Ev k S H (tK v) σ x := fun H1 s Q q => q v H1 (Same.refl _) (k.same s h)
theorem EvF.mono (h : EvF f k H te σ Φ) (i : ∀ x, Φ x → Ψ x) : EvF f k H te σ Ψ := fun Q q => h Q fun v H2 x e r p => q v H2 x e r (i x p)
theorem evf_if (hf : FeedAt H f) (h : EvT H tt σ b) (ha : b = true → ∀ H1, Ext1 f H H1 → EvF f k H1 ta σ Φ) (hb : b = false → ∀ H1, Ext1 f H H1 → EvF f k H1 tb σ Φ) : EvF f k H (tIf tt ta tb) σ Φ := fun Q q => h.use fun H2 s2 => by
  have e2 := Ext1.same hf s2
  cases b with
  | true => exact iteT (ha rfl H2 e2 Q fun v H3 x e3 r p => q v H3 x (e2.trans e3) r p)
  | false => exact iteF (hb rfl H2 e2 Q fun v H3 x e3 r p => q v H3 x (e2.trans e3) r p)
def EvFs (f : Addr) (k : Kd K C α) (H : Hp) (t : TA) (σ : L2.St) (Φ : List α → Prop) : Prop := ∀ Q : List V → Hp → Prop, (∀ vs H2 xs, Ext1 f H H2 → Paired (k.rp [f] H2) vs xs → Φ xs → Q vs H2) → t σ H Q
theorem evfs_nil (hf : FeedAt H f) : EvFs f k H tNil σ fun xs => xs = [] := fun Q q => q [] H [] (Ext1.refl hf) .nil rfl
theorem evfs_cons {Φs : List α → Prop} (h : EvF f k H ta σ Φ) (g : ∀ H1, Ext1 f H H1 → EvFs f k H1 t σ Φs) : EvFs f k H (tCons ta t) σ fun xs => ∃ x r, xs = x :: r ∧ Φ x ∧ Φs r := fun Q q => h _ fun v H2 x e2 r p => by
  refine g H2 e2 _ fun vs H3 xs e3 rs ps => ?_
  exact q _ H3 _ (e2.trans e3) (.cons ((lf_ext (fr_feed e2.feed) (by simp) e3).go _ _ _ r) rs) ⟨x, xs, rfl, p, ps⟩
theorem evf_lst {Φs : List α → Prop} (h : EvFs f k H t σ Φs) (hl : ∀ xs, Φs xs → xs.length ≤ 1000) : EvF f (kL k) H (tLst t) σ Φs := fun Q q => h _ fun vs H2 xs e2 rs ps => by
  have := hl xs ps
  refine ⟨Nat.le_of_lt (szl (by rw [pLen rs]; omega)), fun p hn => ?_⟩
  have fp : p ≠ f := e2.feed.ne hn
  exact q _ _ xs (e2.new hn) ⟨p, vs, rfl, by simp [fp], upd_same, L2.Paired.mapP rs fun _ _ z => k.same (sameU hn) z, by omega⟩ ps
theorem s_forF {Φs : List α → Prop} (h : EvF f (kL k) H te σ Φs) (q : ∀ v H2 xs, Ext1 f H H2 → (kL k).rp [f] H2 v xs → Φs xs → tFor (iList K (tK v)) g u D σ H2) : tFor (iList K te) g u D σ H := h _ fun v H2 xs e r p => q v H2 xs e r p
/-- as if no draw were there -/
theorem evf_ev (hf : FeedAt H f) (h : ∀ H1, Ext1 f H H1 → Ev k [f] H1 te σ x) : EvF f k H te σ fun y => y = x := evf_of hf (h H (Ext1.refl hf))
end
end Ew
namespace Ew
open PySem PySem.Spec PyProof.Rows L2
/-! ### the law's bound -/
def bestS (k : Int) (g : Int → Int) (m : Int) (l : List Int) : Int := if ((l.length : Nat) : Int) ≤ k then (if m < (l.map g).sum then (l.map g).sum else m) else m
section
variable {k m M : Int} {g : Int → Int} {l may : List Int}
theorem bestS_ge : m ≤ bestS k g m l := by
  unfold bestS
  split
  · split <;> omega
  · omega
theorem bestS_of (h : ((l.length : Nat) : Int) ≤ k) : (l.map g).sum ≤ bestS k g m l := by
  unfold bestS
  rw [if_pos h]
  split <;> omega
theorem bestS_le (h1 : m ≤ M) (h2 : ((l.length : Nat) : Int) ≤ k → (l.map g).sum ≤ M) : bestS k g m l ≤ M := by
  unfold bestS
  split
  · rename_i h
    split
    · exact h2 h
    · exact h1
  · exact h1
theorem best_ge : ∀ (L : List (List Int)) (m : Int), m ≤ L.foldl (bestS k g) m
  | [], m => Int.le_refl _
  | l :: L, m => Int.le_trans bestS_ge (best_ge L _)
theorem best_of : ∀ {L : List (List Int)} {m : Int}, l ∈ L → ((l.length : Nat) : Int) ≤ k → (l.map g).sum ≤ L.foldl (bestS k g) m
  | x :: L, m, h, hl => by
    rcases List.mem_cons.mp h with rfl | h
    · exact Int.le_trans (bestS_of hl) (best_ge L _)
    · exact best_of (L := L) h hl
theorem best_le : ∀ {L : List (List Int)} {m : Int}, m ≤ M → (∀ l ∈ L, ((l.length : Nat) : Int) ≤ k → (l.map g).sum ≤ M) → L.foldl (bestS k g) m ≤ M
  | [], m, h, _ => h
  | x :: L, m, h, hl => best_le (L := L) (bestS_le h (hl x (by simp))) fun l hm => hl l (List.mem_cons_of_mem _ hm)
theorem best_top (hk : 0 ≤ k) (h : may.Pairwise (· < ·)) : (lsets may).foldl (bestS k g) 0 = topB k (may.map g) := by
  apply Int.le_antisymm
  · exact best_le (top_nonneg k g may) fun l hl hlen => by
      obtain ⟨l1, l2⟩ := lsets_mem.mp hl
      exact top_ge (nodup_asc h) (nodup_asc l1) l2 hlen
  · obtain ⟨N, m1, m2, m3, m4⟩ := top_lot k hk g (nodup_asc h)
    rw [← m4]
    exact best_of (lsets_mem.mpr ⟨m1, m2⟩) m3
end
/-! ### bounds are not great -/
theorem sum_cap {α : Type} {g : α → Int} {c : Int} (hc : 0 ≤ c) : ∀ {l : List α}, (∀ x ∈ l, g x ≤ c) → (l.map g).sum ≤ c * (l.length : Nat)
  | [], _ => by simp
  | x :: l, h => by
    rw [List.map_cons, List.sum_cons, List.length_cons]
    have h1 := h x (by simp)
    have h2 := sum_cap hc (l := l) fun y hy => h y (List.mem_cons_of_mem _ hy)
    rw [show c * ((l.length + 1 : Nat) : Int) = c * (l.length : Nat) + c by rw [Int.natCast_add, Int.mul_add]; simp]
    omega
theorem sum_low {α : Type} {g : α → Int} {c : Int} (h : ∀ x ∈ ([] : List α), True) : ∀ {l : List α}, (∀ x ∈ l, -c ≤ g x) → -(c * (l.length : Nat)) ≤ (l.map g).sum
  | [], _ => by simp
  | x :: l, h => by
    rw [List.map_cons, List.sum_cons, List.length_cons]
    have h1 := h x (by simp)
    have h2 := sum_low (c := c) (fun _ _ => trivial) (l := l) fun y hy => h y (List.mem_cons_of_mem _ hy)
    rw [show c * ((l.length + 1 : Nat) : Int) = c * (l.length : Nat) + c by rw [Int.natCast_add, Int.mul_add]; simp]
    omega
theorem mul_six {d x : Int} (h0 : 0 ≤ d) (h1 : d ≤ 6) (hx : -1000000000000 ≤ x ∧ x ≤ 1000000000000) : -6000000000000 ≤ d * x ∧ d * x ≤ 6000000000000 := by
  have : d = 0 ∨ d = 1 ∨ d = 2 ∨ d = 3 ∨ d = 4 ∨ d = 5 ∨ d = 6 := by omega
  rcases this with rfl | rfl | rfl | rfl | rfl | rfl | rfl <;> omega
theorem bound_cap {b : Bk} {ws : List (List Int)} {as q : List Int} (ok : DsOk b.ds b.rs) (hq : ∀ x ∈ q, -1000000000000 ≤ x ∧ x ≤ 1000000000000) (hl : q.length = b.ds.length) : -1000000000000000 ≤ boundB b ws as q ∧ boundB b ws as q ≤ 1000000000000000 := by
  have n6 := ok.n6
  have r6 := ok.r6
  have pl := presB_len b as
  have hz : ∀ p ∈ b.ds.zip q, -6000000000000 ≤ p.1 * p.2 ∧ p.1 * p.2 ≤ 6000000000000 := fun p hp => by
    obtain ⟨p1, p2⟩ := List.of_mem_zip hp
    have := ok.d6 _ p1
    exact mul_six this.1 this.2 (hq _ p2)
  have zl : (b.ds.zip q).length ≤ 6 := by rw [List.length_zip]; omega
  have a1 := sum_cap (g := fun p : Int × Int => p.1 * p.2) (c := 6000000000000) (by decide) fun p hp => (hz p hp).2
  have a2 := sum_low (g := fun p : Int × Int => p.1 * p.2) (c := 6000000000000) (fun _ _ => trivial) fun p hp => (hz p hp).1
  have hg : ∀ r ∈ presB b as, 0 ≤ gainB b ws r q ∧ gainB b ws r q ≤ 7000000000000 := fun r hr => by
    have hrr := (presB_mem.mp hr).1
    have hm := ok.ok _ (at_mem hrr)
    have nd := nodup_asc hm.2.2.1
    have ml := nd_len nd hm.2.2.2
    refine ⟨top_nonneg _ _ _, ?_⟩
    obtain ⟨N, m1, m2, m3, m4⟩ := top_lot (at_ b.rs r).1 hm.1 (fun z => worthB ws r z - at_ q z) nd
    unfold gainB
    rw [← m4]
    have nl := sub_len (nodup_asc m1) m2
    have c1 := sum_cap (g := fun z => worthB ws r z - at_ q z) (c := 1000000000001) (l := N) (by decide) fun z hz => by
      have hzr := hm.2.2.2 z (m2 z hz)
      have := hq _ (at_mem (l := q) (i := z) (by omega))
      show worthB ws r z - at_ q z ≤ _
      have hw : worthB ws r z ≤ 1 := by unfold worthB; split <;> omega
      omega
    have : (N.length : Int) ≤ 6 := by omega
    omega
  have b1 := sum_cap (g := fun r => gainB b ws r q) (c := 7000000000000) (by decide) fun r hr => (hg r hr).2
  have b2 := sum_low (g := fun r => gainB b ws r q) (c := 0) (fun _ _ => trivial) (l := presB b as) fun r hr => by have := (hg r hr).1; omega
  unfold boundB
  constructor <;> omega
/-! ### readings -/
section
variable {K : PySem.W.Frag} {C : Addr} {α β γ : Type} {k : Kd K C α} {S : List Addr} {H : Hp} {σ : L2.St} {te ta tb : TE} {f : Addr}
/-- repr(number) -/
theorem ev_reprZ {i : Int} (hx : Ev (K := K) (C := C) kI S H ta σ i) (h : -1000000000000000 ≤ i ∧ i ≤ 1000000000000000) :
    Ev (K := K) (C := C) kS S H (tCB (rRepr K) (tCons ta tNil)) σ (PyData.shown (.int i)) := fun H1 s Q q => by
  refine hx H1 s _ fun v H2 s2 r2 => ?_
  cases (show v = .int i from r2)
  have hb : i.natAbs < 2 ^ 60 := by
    have e : (2 : Nat) ^ 60 = 1152921504606846976 := by decide
    omega
  have hg : i.natAbs.log2 < 1920 := by
    by_cases h0 : i.natAbs = 0
    · rw [h0]
      decide
    · have := (Nat.log2_lt h0).mpr hb
      omega
  exact ⟨_, .int i, rfl, .int i, decide_eq_true hg, Nat.zero_le _, int_text_fits hg, q _ _ s2 rfl⟩
/-- l[1] of a list of two -/
theorem ev_lst1 {i : Nat} {p : Addr} {u v : V} {x : α} (e : σ[i]? = some (some (.ref p))) (hp : H p = some (.lst [u, v])) (hv : k.rp S H v x) : Ev k S H (tOp (rIxL K) (tVar i) (tC (.int 1))) σ x := fun H1 s Q q =>
  ⟨_, e, p, _, 1, v, rfl, rfl, .inl (.inl (s _ _ hp)), rfl, q v H1 (Same.refl _) (k.same s hv)⟩
/-- parts of a tuple -/
theorem ev_tupI {i : Nat} {n : Int} {t : Addr} {us : List V} {v : V} {x : α} (e : σ[i]? = some (some (.ref t))) (hT : SqT K H t us) (h : atI us n = some v) (hv : k.rp S H v x) : Ev k S H (tOp (rIxT K) (tVar i) (tC (.int n))) σ x := fun H1 s Q q =>
  ⟨_, e, t, us, n, v, rfl, rfl, sameT s hT, h, q v H1 (Same.refl _) (k.same s hv)⟩
/-- t[n][:-1], a list to which something was appended -/
theorem ev_tupInit {i : Nat} {n : Int} {t p : Addr} {z : V} {us vs : List V} {l : List α} (e : σ[i]? = some (some (.ref t))) (hT : SqT K H t us) (h : atI us n = some (.ref p)) (hp : H p = some (.lst (vs ++ [z]))) (hP : Paired (k.rp S H) vs l) (hl : l.length ≤ 1000000) (fr : Fr C S H) :
    Ev (kL k) S H (tSl (rSlL K) (tOp (rIxT K) (tVar i) (tC (.int n))) tNoPart (tPart (tUn (rU fun i => .int (-i)) (tC (.int 1))))) σ l := fun H1 s Q q => by
  refine ⟨_, e, t, _, n, .ref p, rfl, rfl, sameT s hT, h, 1, rfl, -1, rfl, p, _, rfl, .inl (.inl (s _ _ hp)), fun c nc => ?_⟩
  have ec : cutV (vs ++ [z]) none (some (-1)) = vs := by
    unfold cutV
    have e1 : HT.sIx (vs ++ [z]).length 0 none = 0 := rfl
    have e2 : HT.sIx (vs ++ [z]).length (vs ++ [z]).length (some (-1)) = vs.length := by
      show (if (-1 : Int) < 0 then ((-1 : Int) + ((vs ++ [z]).length : Nat)).toNat else min (-1 : Int).toNat (vs ++ [z]).length) = _
      rw [if_pos (by omega), List.length_append, List.length_singleton]
      omega
    rw [e1, e2, List.drop_zero, Nat.sub_zero, List.take_append_of_le_length (Nat.le_refl _), List.take_length]
  rw [ec]
  exact q _ _ (sameU nc) ⟨c, vs, rfl, (fr.same s).out nc, upd_same, L2.Paired.mapP hP fun _ _ z => k.same (s.trans (sameU nc)) z, hl⟩
/-- [draw for x in l] -/
theorem evf_lcI {kx : Kd K C α} {l : List α} {wi : TI} {vs : List Nat} {i : Nat} {Ψ : Int → Prop} (hf : FeedAt H f) (fr : Fr C [f] H) (hi : EvI kx [f] H wi σ l) (hl : l.length ≤ 1000) (hw : ∀ v : V, wipe ((wipe σ vs).set i (some v)) vs = wipe σ vs)
    (hb : ∀ (v : V) (H' : Hp), Ext1 f H H' → EvF (K := K) (C := C) f kI H' te ((wipe σ vs).set i (some v)) Ψ) : EvF (K := K) (C := C) f (kL kI) H (tLc wi (gName i) tYes te vs) σ (fun xs => xs.length = l.length ∧ ∀ x ∈ xs, Ψ x) := fun Q q => by
  refine hi H (Same.refl H) _ fun J H2 s2 W D nD => ?_
  have e2 := Ext1.same hf s2
  have fD : D ≠ f := e2.feed.ne nD
  refine ⟨fun j m Hx => m = l.length - j ∧ j ≤ l.length ∧ Ext1 f H2 Hx ∧ ∃ xs : List Int, Hx D = some (.lst (xs.map V.int)) ∧ xs.length = j ∧ ∀ x ∈ xs, Ψ x, ⟨l.length, by simp, Nat.zero_le _, (Ext1.refl e2.feed).new nD, [], upd_same, rfl, fun x hx => nomatch hx⟩, ?_⟩
  rintro j m Hx ⟨rfl, hj, ex, xs, hD, hxl, hxs⟩
  have lx : Lf K C [f] H2 [f] Hx := lf_ext (fr.same s2) (by simp) ex
  by_cases hlt : j < l.length
  · refine .inr ⟨W.go j _ Hx lx hlt, fun H' => j + 1 ≤ l.length ∧ Ext1 f H2 H' ∧ ∃ xs : List Int, H' D = some (.lst (xs.map V.int)) ∧ xs.length = j + 1 ∧ ∀ x ∈ xs, Ψ x, fun H' h => ⟨l.length - (j + 1), by omega, rfl, h⟩, fun v H' hy => ?_⟩
    have hx : l[j]? = some l[j] := by simp [hlt]
    obtain ⟨s3, _⟩ := W.yld j [f] Hx v H' l[j] lx hx hy
    have e3 : Ext1 f H2 H' := ex.trans (Ext1.same ex.feed s3)
    refine ⟨hw v, ?_⟩
    refine hb v H' (e2.trans e3) _ fun w H5 x e5 r px => ?_
    cases (show w = .int x from r)
    have hD5 := e5.1 _ _ fD (s3 _ _ hD)
    refine ⟨_, hD5, szl (by rw [List.length_map]; omega), by omega, (e3.trans e5).own nD fD, xs ++ [x], by rw [upd_same, List.map_append]; rfl, by simp [hxl], fun y hy => ?_⟩
    rcases List.mem_append.mp hy with hy | hy
    · exact hxs y hy
    · rw [List.mem_singleton.mp hy]
      exact px
  · have ej : j = l.length := by omega
    exact .inl ⟨W.stop _ _ Hx lx (by omega), q (.ref D) Hx xs (e2.trans ex) ⟨D, _, rfl, by simp [fD], hD, paired_ints _, by omega⟩ ⟨by omega, hxs⟩⟩
/-! ### what is told: a number, rows and prices, or a short set -/
abbrev Told : Type := (Int × List (List Int) × List Int) ⊕ List Int
abbrev k3T : Kd K C (Int × List (List Int) × List Int) := k3 kI kWs (kL kI)
def kTo : Kd K C Told where
  rp S H v x := match x with
    | .inl z => (k3T (K := K) (C := C)).rp S H v z
    | .inr l => ∃ p wv, v = .ref p ∧ p ∉ S ∧ H p = some (.lst [.str "short", wv]) ∧ (kT (kI (K := K) (C := C))).rp S H wv l
  same {S H H' v x} s h := by cases x with
    | inl z => exact (k3T (K := K) (C := C)).same s h
    | inr l =>
      obtain ⟨p, wv, e, n, h1, h2⟩ := h
      exact ⟨p, wv, e, n, s _ _ h1, (kT (kI (K := K) (C := C))).same s h2⟩
  sx {S H H' v x} f s h := by cases x with
    | inl z => exact (k3T (K := K) (C := C)).sx f s h
    | inr l =>
      obtain ⟨p, wv, e, n, h1, h2⟩ := h
      exact ⟨p, wv, e, n, s.old _ _ n h1, (kT (kI (K := K) (C := C))).sx f s h2⟩
  new {S H p v x} hn h := by cases x with
    | inl z => exact (k3T (K := K) (C := C)).new hn h
    | inr l =>
      obtain ⟨p', wv, e, n, h1, h2⟩ := h
      refine ⟨p', wv, e, fun m => ?_, h1, (kT (kI (K := K) (C := C))).new hn h2⟩
      rcases List.mem_cons.mp m with rfl | m
      · rw [hn] at h1; cases h1
      · exact n m
  less {S T H v x} m h := by cases x with
    | inl z => exact (k3T (K := K) (C := C)).less m h
    | inr l =>
      obtain ⟨p, wv, e, n, h1, h2⟩ := h
      exact ⟨p, wv, e, fun z => n (m _ z), h1, (kT (kI (K := K) (C := C))).less m h2⟩
def p3T : KPy (k3T (K := K) (C := C)) 4 := p3 pI (pL (pT pI)) (pL pI)
def pTo : KPy (kTo (K := K) (C := C)) 5 := ⟨fun x => match x with
    | .inl z => (p3T (K := K) (C := C)).py z
    | .inr l => .list [.str "short", .tuple (l.map PyData.int)], fun {S H v x} h => by
  cases x with
  | inl z => exact (p3T (K := K) (C := C)).dp h
  | inr l =>
    obtain ⟨p, wv, rfl, n, h1, h2⟩ := h
    exact .lst (.inl (.inl h1)) (.cons (.str _) (.cons ((pT (K := K) (C := C) pI).dp h2) .nil)), fun x => by
  cases x with
  | inl z => exact (p3T (K := K) (C := C)).lay z
  | inr l =>
    have := (pT (K := K) (C := C) pI).lay l
    show (PyData.canLay0 (.str "short") && (PyData.canLay0 (.tuple (l.map PyData.int)) && true)) = true
    rw [show PyData.canLay0 (.tuple (l.map PyData.int)) = true from this]
    decide +kernel, fun x => by
  cases x with
  | inl z => exact Nat.le_trans ((p3T (K := K) (C := C)).dep z) (by decide)
  | inr l =>
    have h : PyData.depth (.tuple (l.map PyData.int)) ≤ 1 := (pT (K := K) (C := C) pI).dep l
    show max (PyData.depth (.str "short")) (max (PyData.depth (.tuple (l.map PyData.int))) 0) + 1 ≤ _
    have h0 : PyData.depth (.str "short") = 0 := rfl
    omega, fun x y => by
  cases x with
  | inl z =>
    cases y with
    | inl z' =>
      have := (p3T (K := K) (C := C)).eqv z z'
      rw [show PyData.eqv _ _ = decide (z = z') from this]
      simp
    | inr l =>
      rw [decide_eq_false (by simp)]
      rfl
  | inr l =>
    cases y with
    | inl z =>
      rw [decide_eq_false (by simp)]
      rfl
    | inr l' =>
      have h := (pT (K := K) (C := C) pI).eqv l l'
      show (PyData.eqv (.str "short") (.str "short") && (PyData.eqv (.tuple (l.map PyData.int)) (.tuple (l'.map PyData.int)) && true)) = _
      rw [show PyData.eqv (.tuple (l.map PyData.int)) (.tuple (l'.map PyData.int)) = decide (l = l') from h]
      have h0 : PyData.eqv (.str "short") (.str "short") = true := by decide +kernel
      rw [h0]
      simp⟩
end
def toldB (b : Bk) (ws : List (List Int)) (as : List Int) : Told := match extB b (noRowsB b) as with
  | .inl f0 => .inl (relaidN b ws as f0, (relGo b ws as 40 f0).1, shiftB b (relGo b ws as 40 f0).2)
  | .inr l => .inr l
end Ew
namespace Ew
open PySem PySem.Spec PyProof.Rows L2
section
variable {b : Bk} {ws f : List (List Int)} {as l : List Int}
theorem no_read : ∀ w ∈ withB (noRowsB b) as, w = [] := fun w hw => by
  unfold withB at hw
  obtain ⟨p, hp, rfl⟩ := List.mem_map.mp hw
  obtain ⟨i, hi⟩ := List.mem_iff_getElem?.mp hp
  have e2 := (enum_at hi).2
  have m := List.mem_of_getElem? e2
  unfold noRowsB at m
  obtain ⟨_, _, e⟩ := List.mem_map.mp m
  split
  · rfl
  · exact e.symm
theorem no_cnt (z : Int) : cntW (withB (noRowsB b) as) z = 0 := by
  unfold cntW
  rw [List.filter_eq_nil_iff.mpr fun w hw => by rw [no_read w hw]; simp]
  rfl
theorem good_ext (ok : DsOk b.ds b.rs) (G : GoodR b as f) : lextB b.ds b.rs (noRowsB b) as f = true := by
  have hfl := G.ok.1
  have hl : (withB (noRowsB b) as).length = f.length := by
    unfold withB
    rw [List.length_map, enum_len]
    unfold noRowsB
    rw [List.length_map]
    exact hfl.symm
  have E : ExtSt b (withB (noRowsB b) as) as f := ⟨G.ok, hl, (fun r hr x hx => by
    have m := at_mem (l := withB (noRowsB b) as) (i := r) (by omega)
    rw [no_read _ m] at hx
    cases hx), G.abs⟩
  refine (ext_law ok (noRows_ok ok) E fun z hz => ?_).1
  rw [G.cnt z hz, no_cnt]
  have := (ok.d6 _ (at_mem (l := b.ds) (i := z) (by omega))).1
  omega
theorem cnt_worth (ws : List (List Int)) (r : Int) : ∀ l : List Int, (((l.filter fun z => decide (z ∈ at_ ws r)).length : Nat) : Int) = (l.map (worthB ws r)).sum
  | [] => rfl
  | z :: l => by
    have ih := cnt_worth ws r l
    rw [List.map_cons, List.sum_cons, ← ih, List.filter_cons]
    unfold worthB
    by_cases h : z ∈ at_ ws r
    · rw [if_pos (by simp [h]), if_pos h, List.length_cons]
      omega
    · rw [if_neg (by simp [h]), if_neg h]
      omega
theorem kept_law (ok : DsOk b.ds b.rs) (G : GoodR b as f) : ((presL b.rs as).map fun r => (((at_ f r).filter fun z => decide (z ∈ at_ ws r)).length : Int)).sum = keptB b ws f := by
  have hfl := G.ok.1
  have e : presL b.rs as = presB b as := rfl
  rw [e, sum_pres_all hfl (h := fun r => (((at_ f r).filter fun z => decide (z ∈ at_ ws r)).length : Int)) (fun r hr ha => by rw [G.abs r hr ha]; rfl)]
  unfold keptB keptR
  congr 1
  refine List.map_congr_left fun r hr => ?_
  rw [real_self ok G.ok (iota_mem.mp hr)]
  exact cnt_worth ws r _
theorem kept_nn : 0 ≤ keptB b ws f := by
  unfold keptB keptR
  refine sum_nonneg fun r _ => sum_nonneg fun z _ => ?_
  unfold worthB
  split <;> omega
theorem told_right {z : Int × List (List Int) × List Int} (ok : DsOk b.ds b.rs) (hws : RowsOk b ws) (h : toldB b ws as = .inl z) : GoodR b as z.2.1 ∧ z.1 = keptB b ws z.2.1 ∧ z.2.2.length = b.ds.length ∧ boundB b ws as z.2.2 = z.1 ∧ 0 ≤ z.1 ∧ z.1 ≤ 36 := by
  unfold toldB at h
  cases hx : extB b (noRowsB b) as with
  | inl f0 =>
    rw [hx] at h
    cases h
    have G0 := good_start ok hx
    have h0 := kept_nn (b := b) (ws := ws) (f := f0)
    obtain ⟨r1, r2, r3⟩ := relGo_right (k := 40) ok hws G0 (by omega)
    have hsl := slack ok hws r1 r2 r3
    have k1 := kept_le (ws := ws) ok r1.ok
    have k0 := kept_nn (b := b) (ws := ws) (f := (relGo b ws as 40 f0).1)
    exact ⟨r1, rfl, shift_len r2, hsl, k0, k1⟩
  | inr l =>
    rw [hx] at h
    cases h
theorem told_no (ok : DsOk b.ds b.rs) (h : toldB b ws as = .inr l) : l ∈ allSets b.ds.length ∧ shortB b (noRowsB b) as l = true := by
  unfold toldB at h
  have xr := ext_right (as := as) ok (noRows_ok (b := b) ok)
  cases hx : extB b (noRowsB b) as with
  | inl f0 =>
    rw [hx] at h
    cases h
  | inr l' =>
    rw [hx] at h xr
    cases h
    exact xr
end
end Ew
namespace Ew
open PySem PySem.Spec PyProof.Rows L2
/-! ### tight sets -/
def lackB (b : Bk) (as l : List Int) : Int := wantL b.ds l - ((presB b as).map fun r => cnt2 (at_ b.rs r) (at_ (noRowsB b) r) l).sum
def hR (f : List (List Int)) (l : List Int) (r : Int) : Int := ((l.filter fun z => decide (z ∈ at_ f r)).length : Nat)
section
variable {b : Bk} {f : List (List Int)} {as l l1 l2 c j : List Int} {r : Int}
theorem at_no (r : Int) : at_ (noRowsB b) r = [] := by
  by_cases h : 0 ≤ r ∧ r < ((noRowsB b).length : Int)
  · have m := at_mem h
    unfold noRowsB at m
    obtain ⟨_, _, e⟩ := List.mem_map.mp m
    exact e.symm
  · unfold at_ noRowsB
    rw [List.getD_eq_getElem?_getD, List.getElem?_map]
    cases (b.rs[r.toNat]?) <;> rfl
theorem gR_eq (l : List Int) (r : Int) : cnt2 (at_ b.rs r) (at_ (noRowsB b) r) l = if (((l.filter fun z => decide (z ∈ (at_ b.rs r).2)).length : Nat) : Int) < (at_ b.rs r).1 then (((l.filter fun z => decide (z ∈ (at_ b.rs r).2)).length : Nat) : Int) else (at_ b.rs r).1 := by
  rw [at_no]
  unfold cnt2
  simp only [List.filter_nil, List.length_nil, Int.natCast_zero, Int.sub_zero]
theorem one_sum (w : List Int) : ∀ l : List Int, (l.map fun z => one_ (z ∈ w)).sum = (((l.filter fun z => decide (z ∈ w)).length : Nat) : Int)
  | [] => rfl
  | z :: l => by
    have ih := one_sum w l
    rw [List.map_cons, List.sum_cons, ih, List.filter_cons]
    unfold one_
    by_cases h : z ∈ w
    · rw [if_pos h, if_pos (by simp [h]), List.length_cons]
      omega
    · rw [if_neg h, if_neg (by simp [h])]
      omega
theorem sum_add3 {g k : Int → Int} : ∀ l : List Int, (l.map fun z => g z + k z).sum = (l.map g).sum + (l.map k).sum
  | [] => rfl
  | z :: l => by
    have := sum_add3 (g := g) (k := k) l
    simp only [List.map_cons, List.sum_cons]
    omega
theorem cnt_double (l : List Int) : ∀ f : List (List Int), (l.map fun z => cntW f z).sum = (f.map fun w => (((l.filter fun z => decide (z ∈ w)).length : Nat) : Int)).sum
  | [] => by
    rw [show (l.map fun z => cntW [] z) = l.map fun _ => (0 : Int) from rfl]
    induction l with
    | nil => rfl
    | cons z l ih => rw [List.map_cons, List.sum_cons, ih]; rfl
  | w :: f => by
    have ih := cnt_double l f
    rw [List.map_cons, List.sum_cons, ← ih, ← one_sum, ← sum_add3]
    congr 1
    exact List.map_congr_left fun z _ => cntW_cons w f z
theorem want_h (ok : DsOk b.ds b.rs) (G : GoodR b as f) (hl : ∀ z ∈ l, 0 ≤ z ∧ z < (b.ds.length : Int)) : wantL b.ds l = ((presB b as).map (hR f l)).sum := by
  have hfl := G.ok.1
  have e1 : wantL b.ds l = (l.map fun z => cntW f z).sum := by
    unfold wantL
    congr 1
    exact List.map_congr_left fun z hz => (G.cnt z (hl z hz)).symm
  rw [e1, cnt_double, sum_pres_all hfl (h := hR f l) (fun r hr ha => by unfold hR; rw [G.abs r hr ha]; simp)]
  have e2 : f = (iota (f.length : Nat)).map fun r => at_ f r := rows_iota f
  conv => lhs; rw [e2]
  rw [List.map_map]
  rfl
theorem h_le (ok : DsOk b.ds b.rs) (G : GoodR b as f) (hl : l.Nodup) (hr : r ∈ presB b as) : hR f l r ≤ cnt2 (at_ b.rs r) (at_ (noRowsB b) r) l := by
  have hrr := (presB_mem.mp hr).1
  have hrow := G.ok.2 r (by have := G.ok.1; omega)
  rw [gR_eq]
  have a1 : (l.filter fun z => decide (z ∈ at_ f r)).length ≤ (l.filter fun z => decide (z ∈ (at_ b.rs r).2)).length := by
    refine sub_len (hl.filter _) fun z hz => ?_
    obtain ⟨h1, h2⟩ := List.mem_filter.mp hz
    exact List.mem_filter.mpr ⟨h1, decide_eq_true (hrow.2.1 z (of_decide_eq_true h2))⟩
  have a2 : (l.filter fun z => decide (z ∈ at_ f r)).length ≤ (at_ f r).length := sub_len (hl.filter _) fun z hz => of_decide_eq_true (List.mem_filter.mp hz).2
  have a3 := hrow.2.2
  unfold hR
  split <;> omega
theorem sum_sub3 {g k : Int → Int} : ∀ l : List Int, (l.map g).sum - (l.map k).sum = (l.map fun z => g z - k z).sum
  | [] => rfl
  | z :: l => by
    have := sum_sub3 (g := g) (k := k) l
    simp only [List.map_cons, List.sum_cons]
    omega
theorem sum_zero {d : Int → Int} : ∀ {l : List Int}, (∀ x ∈ l, d x ≤ 0) → (l.map d).sum = 0 → ∀ x ∈ l, d x = 0
  | y :: l, h, e, x, hx => by
    rw [List.map_cons, List.sum_cons] at e
    have h1 := h y (by simp)
    have h2 := sum_nonpos (g := d) (l := l) fun z hz => h z (List.mem_cons_of_mem _ hz)
    rcases List.mem_cons.mp hx with rfl | hx
    · omega
    · exact sum_zero (l := l) (fun z hz => h z (List.mem_cons_of_mem _ hz)) (by omega) x hx
theorem lack_sum (ok : DsOk b.ds b.rs) (G : GoodR b as f) (hl : ∀ z ∈ l, 0 ≤ z ∧ z < (b.ds.length : Int)) : lackB b as l = ((presB b as).map fun r => hR f l r - cnt2 (at_ b.rs r) (at_ (noRowsB b) r) l).sum := by
  unfold lackB
  rw [want_h ok G hl, sum_sub3]
theorem tight_iff (ok : DsOk b.ds b.rs) (G : GoodR b as f) (hn : l.Nodup) (hl : ∀ z ∈ l, 0 ≤ z ∧ z < (b.ds.length : Int)) : lackB b as l = 0 ↔ ∀ r ∈ presB b as, hR f l r = cnt2 (at_ b.rs r) (at_ (noRowsB b) r) l := by
  rw [lack_sum ok G hl]
  constructor
  · intro h r hr
    have := sum_zero (fun x hx => by have := h_le ok G hn hx; omega) h r hr
    omega
  · intro h
    have e : ((presB b as).map fun r => hR f l r - cnt2 (at_ b.rs r) (at_ (noRowsB b) r) l) = (presB b as).map fun _ => (0 : Int) := List.map_congr_left fun r hr => by rw [h r hr]; omega
    rw [e]
    generalize presB b as = L
    induction L with
    | nil => rfl
    | cons x L ih => rw [List.map_cons, List.sum_cons, ih]; rfl
theorem cj_len (n1 : l1.Nodup) (n2 : l2.Nodup) (nc : c.Nodup) (nj : j.Nodup) (hc : ∀ z, z ∈ c ↔ z ∈ l1 ∧ z ∈ l2) (hj : ∀ z, z ∈ j ↔ z ∈ l1 ∨ z ∈ l2) (p : Int → Bool) : (l1.filter p).length + (l2.filter p).length = (c.filter p).length + (j.filter p).length := by
  have hp : (l1 ++ l2).Perm (c ++ j) := List.perm_iff_count.mpr fun a => by
    rw [List.count_append, List.count_append, n1.count, n2.count, nc.count, nj.count]
    by_cases h1 : a ∈ l1 <;> by_cases h2 : a ∈ l2 <;> simp [hc, hj, h1, h2]
  have := (hp.filter p).length_eq
  rw [List.filter_append, List.filter_append, List.length_append, List.length_append] at this
  exact this
theorem cut_join (ok : DsOk b.ds b.rs) (G : GoodR b as f) (n1 : l1.Nodup) (n2 : l2.Nodup) (nc : c.Nodup) (nj : j.Nodup) (hc : ∀ z, z ∈ c ↔ z ∈ l1 ∧ z ∈ l2) (hj : ∀ z, z ∈ j ↔ z ∈ l1 ∨ z ∈ l2)
    (d1 : ∀ z ∈ l1, 0 ≤ z ∧ z < (b.ds.length : Int)) (d2 : ∀ z ∈ l2, 0 ≤ z ∧ z < (b.ds.length : Int)) (t1 : lackB b as l1 = 0) (t2 : lackB b as l2 = 0) : lackB b as c = 0 ∧ lackB b as j = 0 := by
  have dc : ∀ z ∈ c, 0 ≤ z ∧ z < (b.ds.length : Int) := fun z hz => d1 z ((hc z).mp hz).1
  have dj : ∀ z ∈ j, 0 ≤ z ∧ z < (b.ds.length : Int) := fun z hz => by
    rcases (hj z).mp hz with h | h
    · exact d1 z h
    · exact d2 z h
  rw [tight_iff ok G n1 d1] at t1
  rw [tight_iff ok G n2 d2] at t2
  rw [tight_iff ok G nc dc, tight_iff ok G nj dj]
  have key : ∀ r ∈ presB b as, hR f c r = cnt2 (at_ b.rs r) (at_ (noRowsB b) r) c ∧ hR f j r = cnt2 (at_ b.rs r) (at_ (noRowsB b) r) j := fun r hr => by
    have e1 := t1 r hr
    have e2 := t2 r hr
    have ec := h_le ok G nc hr
    have ej := h_le ok G nj hr
    have s1 := cj_len n1 n2 nc nj hc hj fun z => decide (z ∈ at_ f r)
    have s2 := cj_len n1 n2 nc nj hc hj fun z => decide (z ∈ (at_ b.rs r).2)
    have m1 : (c.filter fun z => decide (z ∈ (at_ b.rs r).2)).length ≤ (l1.filter fun z => decide (z ∈ (at_ b.rs r).2)).length := sub_len (nc.filter _) fun z hz => by
      obtain ⟨h1, h2⟩ := List.mem_filter.mp hz
      exact List.mem_filter.mpr ⟨((hc z).mp h1).1, h2⟩
    have m2 : (c.filter fun z => decide (z ∈ (at_ b.rs r).2)).length ≤ (l2.filter fun z => decide (z ∈ (at_ b.rs r).2)).length := sub_len (nc.filter _) fun z hz => by
      obtain ⟨h1, h2⟩ := List.mem_filter.mp hz
      exact List.mem_filter.mpr ⟨((hc z).mp h1).2, h2⟩
    rw [gR_eq] at e1 e2 ec ej
    rw [gR_eq c, gR_eq j]
    unfold hR at *
    generalize (at_ b.rs r).1 = L at *
    generalize (l1.filter fun z => decide (z ∈ (at_ b.rs r).2)).length = i1 at *
    generalize (l2.filter fun z => decide (z ∈ (at_ b.rs r).2)).length = i2 at *
    generalize (c.filter fun z => decide (z ∈ (at_ b.rs r).2)).length = ic at *
    generalize (j.filter fun z => decide (z ∈ (at_ b.rs r).2)).length = ij at *
    split at e1 <;> split at e2 <;> split at ec <;> split at ej <;> refine ⟨?_, ?_⟩ <;> (try split) <;> omega
  exact ⟨fun r hr => (key r hr).1, fun r hr => (key r hr).2⟩
end
end Ew
namespace Ew
open PySem PySem.Spec PyProof.Rows L2
theorem iota_asc (n : Int) : (iota n).Pairwise (· < ·) := by
  unfold iota
  rw [List.pairwise_map]
  exact List.pairwise_lt_range.imp fun h => by omega
def leastL (b : Bk) (as : List Int) (z : Int) : List (List Int) := ((allSets b.ds.length).filter fun l => decide (z ∈ l)).filter fun l => decide (lackB b as l = 0)
def LeastT (b : Bk) (as : List Int) (z : Int) : Option (List Int) → Prop
  | none => leastL b as z = []
  | some l => l ∈ leastL b as z ∧ ∀ m ∈ leastL b as z, l.length ≤ m.length
def dueW (W : List (List Int)) (n : Int) : List Int := (iota n).filter fun y => ((W.filter fun w => !decide (y ∈ w)).map fun _ => (1 : Int)).isEmpty
section
variable {b : Bk} {f : List (List Int)} {as l : List Int} {z : Int} {W : List (List Int)}
theorem leastL_mem : l ∈ leastL b as z ↔ l ∈ allSets b.ds.length ∧ z ∈ l ∧ lackB b as l = 0 := by
  unfold leastL
  rw [List.mem_filter, List.mem_filter, decide_eq_true_eq, decide_eq_true_eq, and_assoc]
theorem dueW_mem {n y : Int} : y ∈ dueW W n ↔ (0 ≤ y ∧ y < n) ∧ ∀ w ∈ W, y ∈ w := by
  unfold dueW
  rw [List.mem_filter, iota_mem]
  refine and_congr_right fun _ => ?_
  rw [List.isEmpty_iff, List.map_eq_nil_iff, List.filter_eq_nil_iff]
  simp
theorem asc_ext {a c : List Int} (ha : a.Pairwise (· < ·)) (hc : c.Pairwise (· < ·)) (h : ∀ y, y ∈ a ↔ y ∈ c) : a = c :=
  asc_unique (ha.imp fun h => by omega) (hc.imp fun h => by omega) ((List.perm_ext_iff_of_nodup (nodup_asc ha) (nodup_asc hc)).mpr h)
theorem cut_tight (ok : DsOk b.ds b.rs) (G : GoodR b as f) {l1 l2 c : List Int} (h1 : l1 ∈ allSets b.ds.length) (h2 : l2 ∈ allSets b.ds.length) (t1 : lackB b as l1 = 0) (t2 : lackB b as l2 = 0) (nc : c.Nodup) (hc : ∀ z, z ∈ c ↔ z ∈ l1 ∧ z ∈ l2) : lackB b as c = 0 := by
  obtain ⟨_, a1, r1⟩ := allSets_mem.mp h1
  obtain ⟨_, a2, r2⟩ := allSets_mem.mp h2
  have n1 := nodup_asc a1
  have n2 := nodup_asc a2
  have nj : (l1 ++ l2.filter fun y => !decide (y ∈ l1)).Nodup := List.nodup_append.mpr ⟨n1, n2.filter _, fun a ha c hc e => by
    have := (List.mem_filter.mp hc).2
    rw [← e] at this
    simp [ha] at this⟩
  exact (cut_join ok G n1 n2 nc nj hc (fun y => by
    rw [List.mem_append, List.mem_filter]
    by_cases h : y ∈ l1 <;> simp [h]) r1 r2 t1 t2).1
theorem join_tight (ok : DsOk b.ds b.rs) (G : GoodR b as f) {l1 l2 j : List Int} (h1 : l1 ∈ allSets b.ds.length) (h2 : l2 ∈ allSets b.ds.length) (t1 : lackB b as l1 = 0) (t2 : lackB b as l2 = 0) (nj : j.Nodup) (hj : ∀ z, z ∈ j ↔ z ∈ l1 ∨ z ∈ l2) : lackB b as j = 0 := by
  obtain ⟨_, a1, r1⟩ := allSets_mem.mp h1
  obtain ⟨_, a2, r2⟩ := allSets_mem.mp h2
  have n1 := nodup_asc a1
  have n2 := nodup_asc a2
  exact (cut_join ok G n1 n2 (n1.filter fun y => decide (y ∈ l2)) nj (fun y => by rw [List.mem_filter, decide_eq_true_eq]) hj r1 r2 t1 t2).2
theorem least_due (ok : DsOk b.ds b.rs) (G : GoodR b as f) (hW : ∀ w, w ∈ W ↔ w ∈ leastL b as z) (hl : l ∈ leastL b as z) (hm : ∀ m ∈ leastL b as z, l.length ≤ m.length) : dueW W b.ds.length = l := by
  obtain ⟨l1, l2, l3⟩ := leastL_mem.mp hl
  obtain ⟨_, la, lr⟩ := allSets_mem.mp l1
  have key : ∀ w ∈ W, ∀ y ∈ l, y ∈ w := fun w hw y hy => by
    obtain ⟨w1, w2, w3⟩ := leastL_mem.mp ((hW w).mp hw)
    have hc : (l.filter fun y => decide (y ∈ w)) ∈ leastL b as z := by
      refine leastL_mem.mpr ⟨allSets_mem.mpr ⟨fun e => ?_, la.filter _, fun x hx => lr x (List.mem_filter.mp hx).1⟩, List.mem_filter.mpr ⟨l2, decide_eq_true w2⟩, cut_tight ok G l1 w1 l3 w3 ((nodup_asc la).filter _) fun y => by rw [List.mem_filter, decide_eq_true_eq]⟩
      have : z ∈ l.filter fun y => decide (y ∈ w) := List.mem_filter.mpr ⟨l2, decide_eq_true w2⟩
      rw [e] at this
      cases this
    have e := (List.filter_sublist (p := fun y => decide (y ∈ w)) (l := l)).eq_of_length_le (hm _ hc)
    rw [← e] at hy
    exact of_decide_eq_true (List.mem_filter.mp hy).2
  refine asc_ext ((iota_asc _).filter _) la fun y => ?_
  rw [dueW_mem]
  exact ⟨fun h => h.2 l ((hW l).mpr hl), fun h => ⟨lr y h, fun w hw => key w hw y h⟩⟩
/-- one demand more of a work in no tight set -/
theorem paired_get {α : Type} {R : V → α → Prop} : ∀ {vs : List V} {xs : List α} {i : Nat} {v : V}, Paired R vs xs → vs[i]? = some v → ∃ x, xs[i]? = some x ∧ R v x
  | _, _, 0, v, .cons (b := x) r t, e => by
    cases (Option.some.inj e : _ = v)
    exact ⟨x, rfl, r⟩
  | _, _, i + 1, v, .cons r t, e => paired_get (i := i) t e
end
section
variable {K : PySem.W.Frag} {C : Addr} {S : List Addr} {H : Hp} {σ : L2.St} {te ta tb : TE}
theorem t_minLen {l : List (List Int)} {Q : VK} (h : Ev (kL (kT (kI (K := K) (C := C)))) S H te σ l) (q0 : l = [] → ∀ H', Same H H' → Q .non H') (q1 : ∀ x ∈ l, (∀ m ∈ l, x.length ≤ m.length) → ∀ v H', Same H H' → (kT (kI (K := K) (C := C))).rp S H' v x → Q v H') : tMinLen K te σ H Q := h H (Same.refl H) _ fun v H1 s r => by
  obtain ⟨a, vs, rfl, nS, hH, hP, hl⟩ := r
  have hlen := pLen hP
  refine ⟨_, rfl, a, vs, fun i => ((l[i]?).getD []).length, rfl, .inl (.inl hH), fun i y hy => ?_, fun e => q0 ?_ H1 s, fun i y hy hm => ?_⟩
  · obtain ⟨x, hx, r⟩ := paired_get hP hy
    obtain ⟨t, us, rfl, hT, hp, _⟩ := r
    refine ⟨t, us, rfl, hT, ?_⟩
    show us.length = ((l[i]?).getD []).length
    rw [hx, pLen hp]
    rfl
  · subst e
    exact List.eq_nil_of_length_eq_zero hlen.symm
  · obtain ⟨x, hx, r⟩ := paired_get hP hy
    refine q1 x (List.mem_of_getElem? hx) (fun m hmm => ?_) y H1 s r
    obtain ⟨j, hj⟩ := List.mem_iff_getElem?.mp hmm
    have := hm j (by have := (List.getElem?_eq_some_iff.mp hj).1; omega)
    dsimp only at this
    rw [hx, hj] at this
    exact this
/-- x in l, of tuples .. -/
theorem ev_inD {α : Type} [DecidableEq α] {k : Kd K C α} {n : Nat} {x : α} {l : List α} [Decidable (x ∈ l)] (p : KPy k n) (ha : Ev k S H ta σ x) (hb : Ev (kL k) S H tb σ l) (hn : n + 1 ≤ 64 := by decide) : Ev (K := K) (C := C) kB S H (tOp (rInD K) ta tb) σ (decide (x ∈ l)) :=
  ev_op2 ha hb fun v w H1 _ e1 e2 Q q => by
    refine ⟨_, _, p.dp e1, (pL p).dp e2, p.sh (by omega) x, (pL p).sh hn l, q _ H1 (Same.refl _) ?_⟩
    show _ = V.bl _
    congr 1
    rw [List.any_map]
    have e : (fun z => PyData.eqv (p.py z) (p.py x)) = fun z => decide (z = x) := funext fun z => p.eqv z x
    show l.any (fun z => PyData.eqv (p.py z) (p.py x)) = _
    rw [e]
    by_cases h : x ∈ l
    · rw [decide_eq_true h]
      exact List.any_eq_true.mpr ⟨x, h, decide_eq_true rfl⟩
    · rw [decide_eq_false h]
      exact List.any_eq_false.mpr fun z hz => by
        have : z ≠ x := fun e => h (e ▸ hz)
        simp [this]
theorem ev_ninD {α : Type} [DecidableEq α] {k : Kd K C α} {n : Nat} {x : α} {l : List α} [Decidable (x ∈ l)] (p : KPy k n) (ha : Ev k S H ta σ x) (hb : Ev (kL k) S H tb σ l) (hn : n + 1 ≤ 64 := by decide) : Ev (K := K) (C := C) kB S H (tOp (rNotInD K) ta tb) σ (!decide (x ∈ l)) :=
  ev_op2 ha hb fun v w H1 _ e1 e2 Q q => by
    refine ⟨_, _, p.dp e1, (pL p).dp e2, p.sh (by omega) x, (pL p).sh hn l, q _ H1 (Same.refl _) ?_⟩
    show _ = V.bl _
    congr 1
    rw [List.any_map]
    have e : (fun z => PyData.eqv (p.py z) (p.py x)) = fun z => decide (z = x) := funext fun z => p.eqv z x
    show (!l.any (fun z => PyData.eqv (p.py z) (p.py x))) = _
    rw [e]
    congr 1
    by_cases h : x ∈ l
    · rw [decide_eq_true h]
      exact List.any_eq_true.mpr ⟨x, h, decide_eq_true rfl⟩
    · rw [decide_eq_false h]
      exact List.any_eq_false.mpr fun z hz => by
        have : z ≠ x := fun e => h (e ▸ hz)
        simp [this]
/-- l * n -/
theorem evn_repL {α : Type} {k : Kd K C α} {l : List α} {n : Int} (ha : Ev (kL k) S H ta σ l) (hb : Ev (K := K) (C := C) kI S H tb σ n) (h0 : 0 ≤ n) (h1 : n ≤ 1) (fr : Fr C S H) : EvN (kL k) S H (tOp rRep ta tb) σ (if n = 1 then l else []) := fun H1 s Q q => ha H1 s _ fun v H2 s2 r => hb H2 (s.trans s2) _ fun w H3 s3 r3 => by
  cases (show w = .int n from r3)
  obtain ⟨a, vs, rfl, nS, hH, hP, hl⟩ := r
  have hlen := pLen hP
  refine ⟨a, n, vs, rfl, rfl, s3 _ _ hH, by omega, by omega, ?_, fun p np => ?_⟩
  · have : n.toNat ≤ 1 := by omega
    have h2 : vs.length * n.toNat ≤ vs.length * 1 := Nat.mul_le_mul_left _ this
    have := Nat.le_of_lt (szl (n := vs.length) (by omega))
    omega
  · have st := s2.trans (s3.trans (sameU np (o := .lst (List.replicate n.toNat vs).flatten)))
    refine q p _ ((s2.trans s3).free np) st ⟨p, _, rfl, (fr.same (s.trans (s2.trans s3))).out np, upd_same, ?_, ?_⟩
    · have : n = 0 ∨ n = 1 := by omega
      rcases this with rfl | rfl
      · exact .nil
      · rw [if_pos rfl]
        show Paired _ ((List.replicate 1 vs).flatten) l
        rw [show (List.replicate 1 vs).flatten = vs by simp]
        exact L2.Paired.mapP hP fun _ _ z => k.same (s3.trans (sameU np)) z
    · split
      · exact hl
      · exact Nat.zero_le _
end
end Ew
namespace Ew
open PySem PySem.Spec PyProof.Rows L2
section
variable {K : PySem.W.Frag} {C : Addr} {α : Type} {k : Kd K C α} {S : List Addr} {H : Hp} {σ : L2.St} {ta tb te : TE}
theorem units65 {n : Nat} {A : Around} (r : Room n A) : A.units + 65 < cLine := by have := r.un; omega
/-- l[e:] -/
theorem evn_dropE {l : List α} {e : Int} (h : Ev (kL k) S H ta σ l) (g : Ev (K := K) (C := C) kI S H tb σ e) (he : 0 ≤ e) (fr : Fr C S H) : EvN (kL k) S H (tSl (rSlL K) ta (tPart tb) tNoPart) σ (l.drop e.toNat) := fun H1 s Q q => h H1 s _ fun v H2 s2 r => g H2 (s.trans s2) _ fun w H3 s3 r3 => by
  cases (show w = .int e from r3)
  obtain ⟨a, us, rfl, na, hA, hP, hl⟩ := r
  refine ⟨e, rfl, a, us, rfl, .inl (.inl (s3 _ _ hA)), fun c nc => ?_⟩
  have ec : cutV us (some e) none = us.drop e.toNat := by
    obtain ⟨n, rfl⟩ := Int.eq_ofNat_of_zero_le he
    exact cut_from us n
  rw [ec]
  exact q c _ ((s2.trans s3).free nc) (s2.trans (s3.trans (sameU nc))) ⟨c, _, rfl, (fr.same (s.trans (s2.trans s3))).out nc, upd_same, Paired.drop _ (L2.Paired.mapP hP fun _ _ z => k.same (s3.trans (sameU nc)) z), Nat.le_trans (by rw [List.length_drop]; omega) hl⟩
/-- t[0] of what is told -/
theorem ev_ext0 {x : List (List Int) ⊕ List Int} (h : Ev (kExt (K := K) (C := C)) S H te σ x) : Ev (K := K) (C := C) kS S H (tOp (rIxT K) te (tC (.int 0))) σ (match x with | .inl _ => "yes" | .inr _ => "no") :=
  ev_op2 h ev_int fun v w H1 _ e1 e2 Q q => by
    obtain ⟨t, u, rfl, r⟩ := e1
    cases (show w = .int 0 from e2)
    cases x with
    | inl y => exact ⟨t, _, 0, .str "yes", rfl, rfl, r.1, rfl, q _ H1 (Same.refl _) rfl⟩
    | inr y => exact ⟨t, _, 0, .str "no", rfl, rfl, r.1, rfl, q _ H1 (Same.refl _) rfl⟩
/-- sorted(set(t)) -/
theorem evn_sortSet {w : World} {l : List Int} {n : Int} (h : Ev (K := K) (C := C) (kT kI) S H te σ l) (hl : l.length < 64) (hr : ∀ j ∈ l, 0 ≤ j ∧ j < n) (fr : Fr C S H) : EvN (K := K) (C := C) (kL kI) S H (tCB (rSortedSet w) (tCons (tCB (rSetOfI K w) (tCons te tNil)) tNil)) σ ((iota n).filter fun j => decide (j ∈ l)) := fun H1 s Q q => by
  refine h H1 s _ fun v H2 s2 r => ?_
  obtain ⟨a, rfl, h1, _⟩ := kT_ints r
  refine ⟨a, l, rfl, h1, by omega, fun d cn nd hcn => ?_⟩
  refine ⟨d, _, cn, rfl, upd_same, by omega, fun ns p hp hm hl2 np => ?_⟩
  have e : ns = (iota n).filter fun j => decide (j ∈ l) := asc_ext hp ((iota_asc _).filter _) fun j => by
    rw [List.mem_filter, iota_mem, hm]
    simp
    exact hr j
  subst e
  have st := s2.trans ((sameU nd).trans (sameU np (o := .lst (((iota n).filter fun j => decide (j ∈ l)).map V.int))))
  refine q p _ ((s2.trans (sameU nd)).free np) st ⟨p, _, rfl, (fr.same (s.trans (s2.trans (sameU nd)))).out np, upd_same, paired_ints _, ?_⟩
  omega
theorem bt_kL1 {i : Nat} {p : Addr} {us : List V} {b : Bool} {T : String} (e : σ[i]? = some (some (.ref p))) (hp : H p = some (.lst us)) (hb : PySem.W.kitOne K (.type "list") (.type T) = some b) : Ev (K := K) (C := C) kB S H (tCB (rIsi K) (tCons (tVar i) (tCons (tC (.ty T)) tNil))) σ b := fun H1 s Q q =>
  ⟨_, e, _, .ty T, _, _, b, rfl, .ty _, bt_lst (.inl (.inl (s _ _ hp))), hb, q _ H1 (Same.refl _) rfl⟩
end
end Ew
namespace Ew
open PySem PySem.Spec PyProof.Rows L2
/-! ### books with another limit, other works, another demand; the greatest lack -/
def lackG (b : Bk) (ws : List (List Int)) (ps l : List Int) : Int := wantL b.ds l - (ps.map fun r => cnt2 (at_ b.rs r) (at_ ws r) l).sum
def withR (b : Bk) (r lim : Int) (may : List Int) : Bk := ⟨b.ds, b.rs.set r.toNat (lim, may)⟩
def withD (b : Bk) (z d : Int) : Bk := ⟨b.ds.set z.toNat d, b.rs⟩
structure MaxG (b : Bk) (ws : List (List Int)) (ps : List Int) (x : Int × List Int) : Prop where
  mem : x.2 ∈ allSets b.ds.length
  eq : x.1 = lackG b ws ps x.2
  max : ∀ l ∈ allSets b.ds.length, lackG b ws ps l ≤ x.1
theorem withR_ok {b : Bk} {r lim : Int} {may : List Int} (ok : DsOk b.ds b.rs) (hr : 0 ≤ r ∧ r < (b.rs.length : Int)) (h : RdOk b.ds.length (lim, may)) : DsOk b.ds (b.rs.set r.toNat (lim, may)) :=
  ⟨ok.n1, ok.n6, ok.d6, by rw [List.length_set]; exact ok.r6, fun x hx => by
    rcases List.mem_or_eq_of_mem_set hx with h1 | h1
    · exact ok.ok x h1
    · rw [h1]; exact h⟩
theorem withD_ok {b : Bk} {z d : Int} (ok : DsOk b.ds b.rs) (hz : 0 ≤ z ∧ z < (b.ds.length : Int)) (h : 0 ≤ d ∧ d ≤ 6) : DsOk (b.ds.set z.toNat d) b.rs :=
  ⟨by rw [List.length_set]; exact ok.n1, by rw [List.length_set]; exact ok.n6, fun x hx => by
    rcases List.mem_or_eq_of_mem_set hx with h1 | h1
    · exact ok.d6 x h1
    · rw [h1]; exact h, ok.r6, fun x hx => by rw [List.length_set]; exact ok.ok x hx⟩
theorem allSets_ne {n : Nat} (h : 1 ≤ n) : allSets n ≠ [] := fun e => by
  have h1 : [(0 : Int)] ∈ allSets n := allSets_mem.mpr ⟨by simp, by simp, fun x hx => by rw [List.mem_singleton.mp hx]; omega⟩
  rw [e] at h1
  cases h1
theorem allSets_len {n : Nat} (h : n ≤ 6) : (allSets n).length ≤ 117649 := by
  unfold allSets
  rw [List.length_drop, setsF_len]
  have : 2 ^ n ≤ 2 ^ 6 := Nat.pow_le_pow_right (by decide) h
  omega
theorem q_retX {K : PySem.W.Frag} {te : TE} {D : Ends} {σ : L2.St} {H : Hp} (h : te σ H D.rt) : tRet te D σ H := h
section
variable {K : PySem.W.Frag} {C : Addr} {S : List Addr} {H : Hp} {σ : L2.St} {te : TE}
theorem t_maxLam {tb : Addr} {l : List (Int × List Int)} {Q : VK} (h : Ev (kL (kP kI (kT (kI (K := K) (C := C))))) S H te σ l) (hT : TabQ H tb qLam) (hne : l ≠ []) (q : ∀ x ∈ l, (∀ m ∈ l, m.1 ≤ x.1) → ∀ v H', Same H H' → (kP kI (kT (kI (K := K) (C := C)))).rp S H' v x → Q v H') : tMaxLam K tb te σ H Q := h H (Same.refl H) _ fun v H1 s r => by
  obtain ⟨a, vs, rfl, nS, hH, hP, hl⟩ := r
  have hlen := pLen hP
  refine ⟨_, rfl, s.tab _ _ hT, a, vs, fun i => (l[i]?.getD (0, [])).1, rfl, .inl (.inl hH), ?_, fun i y hy => ?_, fun i y H2 hy hm s2 => ?_⟩
  · rw [hlen]; exact List.length_pos_iff.mpr hne
  · obtain ⟨x, hx, r⟩ := paired_get hP hy
    obtain ⟨t, v1, v2, rfl, hT, h1, h2⟩ := r
    cases (show v1 = .int x.1 from h1)
    exact ⟨t, _, rfl, hT, by show some (V.int x.1) = some (V.int (l[i]?.getD (0, [])).1); rw [hx]; rfl⟩
  · obtain ⟨x, hx, r⟩ := paired_get hP hy
    refine q x (List.mem_of_getElem? hx) (fun m hmm => ?_) y H2 (s.trans s2) ((kP kI (kT kI) : Kd K C _).same s2 r)
    obtain ⟨j, hj⟩ := List.mem_iff_getElem?.mp hmm
    have := hm j (by have := (List.getElem?_eq_some_iff.mp hj).1; omega)
    dsimp only at this
    rw [hx, hj] at this
    exact this
end
section
variable {P : Program} {w : World} {K : PySem.W.Frag} {mg : Str → Option Value} {base : Heap} {C SB RE tb : Addr}
/-- a def in which a lambda is made: its code object's table is known -/
structure DefL (K : PySem.W.Frag) (mg : Str → Option Value) (base : Heap) (x : Str) (st : Stmt) (ps : List Str) (tb : Addr) : Prop where
  ex : ∃ (f cg : Addr) (fd : FuncData) (oc : Value) (od : Option Addr) (kV doc pm : Value) (an : Option Addr) (ct : Value) (osl : Array (Option Value)), fd = PySem.W.fnOf x x (defArgs st) (defBody st) (defScope st) .none kV doc pm an (.ref cg) ct ∧ K.lookup f = some ⟨oc, od, .func fd, osl⟩ ∧
    PySem.W.codeIn K (.ref cg) x = true ∧ PySem.W.keepIn K (.ref f) = true ∧ Binds K fd ps [] ∧ mg x = some (.ref f) ∧ LamX.TabB base mg cg tb
theorem calL_of {x : Str} {st : Stmt} {N ps : List Str} {k : Nat} {sp : Sp} (D : DefL K mg base x st ps tb) (sc : FnScope N ps (defScope st)) (len : ∀ vs H Q E, sp vs H Q E → vs.length = ps.length)
    (hb : ∀ (f cg : Addr) (A : Around) (outer : List Env) (s : Shared) (H : Hp) (vs : List V) (Q : VK) (E : XK), LamX.TabB base mg cg tb → Room k (A.deeper (envOfC x (defScope st) s.heap.objs.size f (.ref cg))) → sp vs H Q E →
      ∃ t, PSs (cxOf CX0 P w K mg base N x (defScope st) f (.ref cg) A outer s H E).nox (defBody st) t ∧ t { nx := fun _ H' => Q .non H', rt := Q } (start N vs) H) : C8.Cal P w K mg base (k + 1) x sp [] := by
  obtain ⟨f, cg, fd, oc, od, kV, doc, pm, an, ct, osl, rfl, lk, hcd, kp, bd, g, tB⟩ := D.ex
  exact ⟨f, _, ps, [], fn_of lk hcd sc len fun A outer s H vs Q E hr hs => (hb f cg A outer s H vs Q E tB hr hs).imp fun _ z => ⟨z.1.nox, z.2⟩, g, kp, bd, .nil⟩
theorem kR_any {K : PySem.W.Frag} {C : Addr} {S T : List Addr} {H : Hp} {v : V} {x : Int × List Int} (h : (kR (K := K) (C := C)).rp S H v x) : (kR (K := K) (C := C)).rp T H v x := let ⟨t, v1, v2, e, q, h1, h2⟩ := h; ⟨t, v1, v2, e, q, h1, kTI_any h2⟩
/-- the list at p, own and new, is written at r -/
theorem q_asgIx {K : PySem.W.Frag} {C : Addr} {α : Type} {k : Kd K C α} {S : List Addr} {H : Hp} {σ : L2.St} {te : TE} {u : TS} {D : Ends} {x : α} {i j : Nat} {p : Addr} {us : List V} {r : Int} (h : Ev k S H te σ x) (e1 : σ[i]? = some (some (.ref p))) (e2 : σ[j]? = some (some (.int r))) (hp : H p = some (.lst us)) (hr : 0 ≤ r ∧ r < us.length)
    (q : ∀ v H2, Same H H2 → k.rp S H2 v x → H2 p = some (.lst us) → u D σ (upd H2 p (.lst (us.set r.toNat v)))) : tSeq (tAsg te (gSub (tVar i) (tVar j) rSetL)) u D σ H := h.use fun v H2 s rv => by
  have h2 := s _ _ hp
  exact ⟨_, e1, _, e2, p, us, r, r.toNat, rfl, rfl, h2, by unfold ixN; rw [if_pos hr.1, if_pos (show r < (us.length : Int) by omega)], q v H2 s rv h2⟩

abbrev sLack : Stmt := (top 33)
def sp_lack (K : PySem.W.Frag) (C : Addr) : Sp := spD (K := K) (C := C) (aC kBk (aC (kL (kT kI)) (aC (kL kI) (aC (kT kI) aN)))) kI (fun (b , ws , ps , l , _) => (∀ r ∈ ps, 0 ≤ r ∧ r < b.rs.length) ∧ ws.length = b.rs.length ∧ ∀ z ∈ l, 0 ≤ z ∧ z < b.ds.length) fun (b, ws, ps, l, _) => lackG b ws ps l
theorem scLack : FnScope ["book", "rows", "readers", "works", "demands", "wanted", "work", "reader"] ["book", "rows", "readers", "works"] (defScope sLack) := ⟨rfl, rfl, rfl, by decide +kernel, rfl, by decide +kernel, by decide +kernel⟩
theorem c_lack (D : DefAt K mg "lack" sLack ["book", "rows", "readers", "works"]) (B : Bi mg) (T : BkC P w K mg base C)  (c_count : C8.Cal P w K mg base 2 "count" (sp_count K C) []) : C8.Cal P w K mg base 3 "lack" (sp_lack K C) [] := by
  refine calD D scLack rfl fun f cdv A outer s H vs Q E S a hr fr ha hp q => ?_
  obtain ⟨b, ws, ps, l, _⟩ := a
  obtain ⟨w_book, _, rfl, h_book, w_rows, _, rfl, h_rows, w_readers, _, rfl, h_readers, w_works, _, rfl, h_works, e⟩ := ha
  cases (show _ = [] from e)
  have h_book : (kBk : Kd K C _).rp S H w_book b := h_book
  have h_rows : ((kL (kT kI)) : Kd K C _).rp S H w_rows ws := h_rows
  have h_readers : ((kL kI) : Kd K C _).rp S H w_readers ps := h_readers
  have h_works : ((kT kI) : Kd K C _).rp S H w_works l := h_works
  have ok_book := kBk.ok h_book
  have r6_book := ok_book.r6
  have n6_book := ok_book.n6
  have n1_book := ok_book.n1
  have n_rows := kL_len h_rows
  have n_readers := kL_len h_readers
  have n_works := kT_len h_works
  have q : ∀ v H', Same H H' → (kI : Kd K C _).rp S H' v (lackG b ws ps l) → Q v H' := q
  obtain ⟨u1, u2, u3⟩ : (∀ r ∈ ps, 0 ≤ r ∧ r < b.rs.length) ∧ ws.length = b.rs.length ∧ ∀ z ∈ l, 0 ≤ z ∧ z < b.ds.length := hp
  refine ⟨_, (pss_cons (ps_set (i := 4) scLack.nd rfl (.inr rfl) (C8.pe_mt0 T.dem hr (by decide) (pv 0)))
 (pss_cons (ps_set (i := 5) scLack.nd rfl (.inl rfl) (pe_callB (cr_sum rfl) (by rfl) B.sum (by decide +kernel) (pa_cons (pe_lc (own := [("work", 6)]) (g := (gName 6)) (tt := tYes) (te := (tOp (rIxL K) (tVar 4) (tVar 6))) rfl scLack.nd (pi_tup (pv 3)) (blkOk_by (own := [("work", 6)]) (N := ["book", "rows", "readers", "works", "demands", "wanted", "work", "reader"]) (sc := defScope sLack) (by decide +kernel)) (fun _ _ _ _ _ => (pg_name (i := 6) scLack.nd rfl (.inl rfl))) (fun _ _ _ _ _ => pts_nil) (fun _ _ _ _ _ => (pe_ix ix_list (pv 4) (pv 6) (fun _ _ => rfl)))) pa_nil)))
 (pss_one (ps_ret (pe_op op_sub (pv 5) (pe_callB (cr_sum rfl) (by rfl) B.sum (by decide +kernel) (pa_cons (pe_lc (own := [("reader", 7)]) (g := (gName 7)) (tt := tYes) (te := (tCall (sp_count K C) [] C8.E0 (tCons (tVar 0) (tCons (tVar 1) (tCons (tVar 7) (tCons (tVar 3) tNil)))))) rfl scLack.nd (pi_list (pv 2)) (blkOk_by (own := [("reader", 7)]) (N := ["book", "rows", "readers", "works", "demands", "wanted", "work", "reader"]) (sc := defScope sLack) (by decide +kernel)) (fun _ _ _ _ _ => (pg_name (i := 7) scLack.nd rfl (.inl rfl))) (fun _ _ _ _ _ => pts_nil) (fun _ _ _ _ _ => (C8.pe_c c_count hr (by decide) (by rfl) (pa_cons (pv 0) (pa_cons (pv 1) (pa_cons (pv 7) (pa_cons (pv 3) pa_nil))))))) pa_nil))))))), ?_⟩
  try dsimp only [cxOf, Cx.nox, Cx.wish]
  exact q_setN (evn_dem (ev_var rfl h_book Lf.refl) fr) fun p1 H1_ n1 s1 h1 =>
    q_set (ev_sum (EvN.ev (evn_lc (fr.same s1) (evi_tup (ev_var rfl h_works (Lf.same s1))) (by first | exact n_works | exact n_readers) (fun y1 hy1 D1 v1 H1 l1 f1 hv1 => lcb_name rfl evt_yes (fun ht1 => (ev_ixL (ev_var rfl h1 l1) (ev_var rfl hv1 Lf.refl) (u3 _ hy1))))))) fun w2_ H2_ s2 h2 =>
    s_ret (Ev.to (ev_I2 (ev_var rfl h2 Lf.refl) (ev_sum (EvN.ev (evn_lc ((fr.same s1).same s2) (evi_list (ev_var rfl h_readers (Lf.trans (Lf.same s1) (Lf.same s2)))) (by first | exact n_works | exact n_readers) (fun y2 hy2 D2 v2 H2 l2 f2 hv2 => lcb_name rfl evt_yes (fun ht2 => (ev_call (eva_cons (ev_var rfl h_book (Lf.trans (Lf.same s1) (Lf.trans (Lf.same s2) l2))) (eva_cons (ev_var rfl h_rows (Lf.trans (Lf.same s1) (Lf.trans (Lf.same s2) l2))) (eva_cons (ev_var rfl hv2 Lf.refl) (eva_cons (ev_var rfl h_works (Lf.trans (Lf.same s1) (Lf.trans (Lf.same s2) l2))) eva_nil)))) f2 ⟨u1 _ hy2, u2⟩))))))) (by rw [List.filter_eq_self.mpr (fun _ _ => rfl), List.filter_eq_self.mpr (fun _ _ => rfl)]; rfl)) fun v H' s' r => q v H' (s1.trans (s2.trans s')) r

abbrev sWithR : Stmt := (top 35)
theorem scWithR : FnScope ["book", "reader", "limit", "may", "readers"] ["book", "reader", "limit", "may"] (defScope sWithR) := ⟨rfl, rfl, rfl, by decide +kernel, rfl, by decide +kernel, by decide +kernel⟩
def sp_with_reader (K : PySem.W.Frag) (C : Addr) : Sp := spN (K := K) (C := C) (aC kBk (aC kI (aC kI (aC (kT kI) aN)))) kBk (fun a => (0 ≤ a.2.1 ∧ a.2.1 < (a.1.rs.length : Int)) ∧ RdOk a.1.ds.length (a.2.2.1, a.2.2.2.1)) (fun a => withR a.1 a.2.1 a.2.2.1 a.2.2.2.1)
set_option maxHeartbeats 0 in
theorem c_with_reader (D : DefAt K mg "with_reader" sWithR ["book", "reader", "limit", "may"]) (B : Bi mg) (T : BkC P w K mg base C) : C8.Cal P w K mg base 6 "with_reader" (sp_with_reader K C) [] := by
  refine calN D scWithR rfl fun f cdv A outer s H vs Q E S a hr fr h hp q => ?_
  obtain ⟨b, r, lim, may, _⟩ := a
  obtain ⟨w_book, _, rfl, h_book, w_reader, _, rfl, h_reader, w_limit, _, rfl, h_limit, w_may, _, rfl, h_may, e⟩ := h
  cases (show _ = [] from e)
  have h_book : (kBk : Kd K C _).rp S H w_book b := h_book
  have h_reader : (kI : Kd K C _).rp S H w_reader r := h_reader
  have h_limit : (kI : Kd K C _).rp S H w_limit lim := h_limit
  have h_may : ((kT kI) : Kd K C _).rp S H w_may may := h_may
  obtain ⟨p1, p2⟩ : (0 ≤ r ∧ r < (b.rs.length : Int)) ∧ RdOk b.ds.length (lim, may) := hp
  have q : ∀ p H', H p = none → Same H H' → (kBk : Kd K C _).rp S H' (.ref p) (withR b r lim may) → Q (.ref p) H' := q
  have ok := kBk.ok h_book
  cases (show w_reader = .int r from h_reader)
  refine ⟨_, (pss_cons (ps_set (i := 4) scWithR.nd rfl (.inl rfl) (C8.pe_mt0 T.rd hr (by decide) (pv 0)))
 (pss_cons (ps_asg (pe_tup (pa_cons (pv 2) (pa_cons (pv 3) pa_nil))) (pg_sub (pv 4) (pv 1) set_list))
 (pss_one (ps_ret (C8.pe_mk T.mak hr (by decide) (by rfl) (pa_cons (C8.pe_mt0 T.dem hr (by decide) (pv 0)) (pa_cons (pv 4) pa_nil))))))), ?_⟩
  try dsimp only [cxOf, Cx.nox, Cx.wish]
  refine q_setN (S := S) (evn_rd (ev_var (i := 0) rfl h_book Lf.refl) fr) fun p H1 n1 s1 h1 => ?_
  obtain ⟨p', us, e, np, hp1, hP1, hl1⟩ := h1
  cases e
  have hul : us.length = b.rs.length := pLen hP1
  refine q_asgIx (S := S) (k := kR) (ev_t2 (ev_var (i := 2) rfl h_limit (.same s1)) (ev_var (i := 3) rfl h_may (.same s1))) rfl rfl hp1 (by rw [hul]; exact p1) fun v H2 s2 rv hp2 => ?_
  have f2 : Fr C (p :: S) H2 := fun a m => by
    rcases List.mem_cons.mp m with rfl | m
    · exact ⟨_, hp2, trivial⟩
    · exact (fr.same (s1.trans s2)) a m
  have sx : Sx C (p :: S) H2 (upd H2 p (.lst (us.set r.toNat v))) := sx_upd f2 (by simp) trivial
  have sU : Same H (upd H2 p (.lst (us.set r.toNat v))) := sameOwn (s1.trans s2) n1 (.lst hp2)
  have hN : (kL kR : Kd K C _).rp S (upd H2 p (.lst (us.set r.toNat v))) (.ref p) (b.rs.set r.toNat (lim, may)) := ⟨p, _, rfl, np, upd_same, L2.Paired.mapP (paired_set (R := (kR : Kd K C _).rp (p :: S) (upd H2 p (.lst (us.set r.toNat v)))) (kR.sx f2 sx (kR_any rv)) r.toNat (L2.Paired.mapP hP1 fun _ _ z => kR.sx f2 sx (kR_any (kR.same s2 z)))) fun _ _ z => kR_any z, by rw [List.length_set]; exact hl1⟩
  refine s_retN (S := S) (evn_mkBk (EvN.ev (evn_dem (ev_var (i := 0) rfl h_book (.same sU)) (fr.same sU))) (ev_var (i := 4) rfl hN Lf.refl) (fr.same sU) (withR_ok ok p1 p2)) fun p3 H3 n3 s3 r3 => q p3 H3 (sU.free n3) (sU.trans s3) r3

abbrev sWithD : Stmt := (top 41)
theorem scWithD : FnScope ["book", "work", "demand", "demands"] ["book", "work", "demand"] (defScope sWithD) := ⟨rfl, rfl, rfl, by decide +kernel, rfl, by decide +kernel, by decide +kernel⟩
def sp_with_demand (K : PySem.W.Frag) (C : Addr) : Sp := spN (K := K) (C := C) (aC kBk (aC kI (aC kI aN))) kBk (fun a => (0 ≤ a.2.1 ∧ a.2.1 < (a.1.ds.length : Int)) ∧ 0 ≤ a.2.2.1 ∧ a.2.2.1 ≤ 6) (fun a => withD a.1 a.2.1 a.2.2.1)
set_option maxHeartbeats 0 in
theorem c_with_demand (D : DefAt K mg "with_demand" sWithD ["book", "work", "demand"]) (B : Bi mg) (T : BkC P w K mg base C) : C8.Cal P w K mg base 6 "with_demand" (sp_with_demand K C) [] := by
  refine calN D scWithD rfl fun f cdv A outer s H vs Q E S a hr fr h hp q => ?_
  obtain ⟨b, z, d, _⟩ := a
  obtain ⟨w_book, _, rfl, h_book, w_work, _, rfl, h_work, w_demand, _, rfl, h_demand, e⟩ := h
  cases (show _ = [] from e)
  have h_book : (kBk : Kd K C _).rp S H w_book b := h_book
  have h_work : (kI : Kd K C _).rp S H w_work z := h_work
  have h_demand : (kI : Kd K C _).rp S H w_demand d := h_demand
  obtain ⟨p1, p2⟩ : (0 ≤ z ∧ z < (b.ds.length : Int)) ∧ 0 ≤ d ∧ d ≤ 6 := hp
  have q : ∀ p H', H p = none → Same H H' → (kBk : Kd K C _).rp S H' (.ref p) (withD b z d) → Q (.ref p) H' := q
  have ok := kBk.ok h_book
  cases (show w_work = .int z from h_work)
  refine ⟨_, (pss_cons (ps_set (i := 3) scWithD.nd rfl (.inl rfl) (C8.pe_mt0 T.dem hr (by decide) (pv 0)))
 (pss_cons (ps_asg (pv 2) (pg_sub (pv 3) (pv 1) set_list))
 (pss_one (ps_ret (C8.pe_mk T.mak hr (by decide) (by rfl) (pa_cons (pv 3) (pa_cons (C8.pe_mt0 T.rd hr (by decide) (pv 0)) pa_nil))))))), ?_⟩
  try dsimp only [cxOf, Cx.nox, Cx.wish]
  refine q_setN (S := S) (evn_dem (ev_var (i := 0) rfl h_book Lf.refl) fr) fun p H1 n1 s1 h1 => ?_
  obtain ⟨p', e, np, hp1, hl1⟩ := kL_ints h1
  cases e
  refine q_asgIx (S := S) (k := kI) (ev_var (i := 2) rfl h_demand (.same s1)) rfl rfl hp1 (by rw [List.length_map]; exact p1) fun v H2 s2 rv hp2 => ?_
  cases (show v = .int d from rv)
  have sU : Same H (upd H2 p (.lst ((b.ds.map V.int).set z.toNat (.int d)))) := sameOwn (s1.trans s2) n1 (.lst hp2)
  have hN : (kL kI : Kd K C _).rp S (upd H2 p (.lst ((b.ds.map V.int).set z.toNat (.int d)))) (.ref p) (b.ds.set z.toNat d) := ⟨p, _, rfl, np, by rw [upd_same, ← List.map_set], paired_ints _, by rw [List.length_set]; exact hl1⟩
  refine s_retN (S := S) (evn_mkBk (ev_var (i := 3) rfl hN Lf.refl) (EvN.ev (evn_rd (ev_var (i := 0) rfl h_book (.same sU)) (fr.same sU))) (fr.same sU) (withD_ok ok p1 p2)) fun p3 H3 n3 s3 r3 => q p3 H3 (sU.free n3) (sU.trans s3) r3

abbrev sGrL : Stmt := (top 34)
theorem scGrL : FnScope ["book", "rows", "readers", "found", "works"] ["book", "rows", "readers"] (defScope sGrL) := ⟨rfl, rfl, rfl, by decide +kernel, rfl, by decide +kernel, by decide +kernel⟩
def sp_greatest_lack (K : PySem.W.Frag) (C tb : Addr) : Sp := fun vs H Q _ => ∃ S a, Fr C S H ∧ TabQ H tb qLam ∧ ((aC kBk (aC kWs (aC (kL kI) aN))) : Ka K C (Bk × List (List Int) × List Int × Unit)).rps S H vs a ∧ ((∀ r ∈ a.2.2.1, 0 ≤ r ∧ r < a.1.rs.length) ∧ a.2.1.length = a.1.rs.length) ∧
  ∀ x v H', MaxG a.1 a.2.1 a.2.2.1 x → Same H H' → (kP kI (kT (kI (K := K) (C := C)))).rp S H' v x → Q v H'
set_option maxHeartbeats 0 in
theorem c_greatest_lack (D : DefL K mg base "greatest_lack" sGrL ["book", "rows", "readers"] tb) (B : Bi mg) (T : BkC P w K mg base C) (c_sets_of_works : C8.Cal P w K mg base 1 "sets_of_works" (sp_sets_of_works K C) []) (c_lack : C8.Cal P w K mg base 3 "lack" (sp_lack K C) []) : C8.Cal P w K mg base 4 "greatest_lack" (sp_greatest_lack K C tb) [] := by
  refine calL_of D scGrL (fun vs H Q E h => ?_) fun f cg A outer s H vs Q E hTB hr h => ?_
  · obtain ⟨S, a, _, _, h, _⟩ := h
    rw [Ka.len _ h]
    rfl
  obtain ⟨S, ⟨b, ws, ps, _⟩, fr, hT, h, hp, q⟩ := h
  obtain ⟨w_book, _, rfl, h_book, w_rows, _, rfl, h_rows, w_readers, _, rfl, h_readers, e⟩ := h
  cases (show _ = [] from e)
  have h_book : (kBk : Kd K C _).rp S H w_book b := h_book
  have h_rows : (kWs : Kd K C _).rp S H w_rows ws := h_rows
  have h_readers : ((kL kI) : Kd K C _).rp S H w_readers ps := h_readers
  obtain ⟨u1, u2⟩ : (∀ r ∈ ps, 0 ≤ r ∧ r < b.rs.length) ∧ ws.length = b.rs.length := hp
  have q : ∀ x v H', MaxG b ws ps x → Same H H' → (kP kI (kT (kI (K := K) (C := C)))).rp S H' v x → Q v H' := q
  have ok := kBk.ok h_book
  have n6 := ok.n6
  have n1 := ok.n1
  refine ⟨_, (pss_cons (ps_setLc (i := 3) (own := [("works", 4)]) (g := (gName 4)) (tt := tYes) (te := (tTup (tCons (tCall (sp_lack K C) [] C8.E0 (tCons (tVar 0) (tCons (tVar 1) (tCons (tVar 2) (tCons (tVar 4) tNil))))) (tCons (tVar 4) tNil)))) (by rfl) scGrL.nd rfl rfl (sw_true rfl rfl rfl (by decide +kernel)) (pi_list (C8.pe_c c_sets_of_works hr (by decide) (by rfl) (pa_cons (pe_callB (call_lenBk T hr (by decide)) (by rfl) B.len PySem.boot_len (pa_cons (pv 0) pa_nil)) pa_nil))) (blkOk_by (own := [("works", 4)]) (N := ["book", "rows", "readers", "found", "works"]) (sc := defScope sGrL) (by decide +kernel)) (fun _ _ _ _ _ => (pg_name (i := 4) scGrL.nd rfl (.inl rfl))) (fun _ _ _ _ _ => pts_nil) (fun _ _ _ _ _ => (pe_tup (pa_cons (C8.pe_c c_lack hr (by decide) (by rfl) (pa_cons (pv 0) (pa_cons (pv 1) (pa_cons (pv 2) (pa_cons (pv 4) pa_nil))))) (pa_cons (pv 4) pa_nil)))))
 (pss_one (ps_ret (pe_maxLam (by rfl) (by show (A.deeper _).depth < _; have := hr.dp; omega) (pv 3) (by rfl) B.max hTB rfl (by rfl) (by rfl) (by rfl) (by decide) (fun _ _ _ _ => rfl))))), ?_⟩
  try dsimp only [cxOf, Cx.nox, Cx.wish]
  refine q_setN (S := S) (evn_lc fr (evi_list (EvN.ev (evn_call (eva_cons (ev_lenBk (ev_var (i := 0) rfl h_book Lf.refl)) eva_nil) fr (by dsimp only; omega)))) (Nat.le_trans (allSets_len n6) (by decide)) (fun y1 hy1 D1 v1 H1 l1 f1 hv1 => lcb_name rfl evt_yes (fun ht1 => (ev_t2 (ev_call (eva_cons (ev_var (i := 0) rfl h_book l1) (eva_cons (ev_var (i := 1) rfl h_rows l1) (eva_cons (ev_var (i := 2) rfl h_readers l1) (eva_cons (ev_var rfl hv1 Lf.refl) eva_nil)))) f1 ⟨u1, u2, fun x hx => (allSets_mem.mp hy1).2.2 x hx⟩) (ev_var rfl hv1 Lf.refl))))) fun p2 H2 n2 s2 h_found => ?_
  have h_found : (kL (kP kI (kT kI)) : Kd K C _).rp S H2 (.ref p2) (((allSets b.ds.length).filter fun _ => true).map fun l => (lackG b ws ps l, l)) := h_found
  rw [List.filter_eq_self.mpr fun _ _ => rfl] at h_found
  refine q_retX (K := K) (t_maxLam (K := K) (C := C) (S := S) (tb := tb) (ev_var (i := 3) rfl h_found Lf.refl) (s2.tab _ _ hT) (fun e => ?_) fun x hx hm v H3 s3 r3 => q x v H3 ?_ (s2.trans s3) r3)
  · have := allSets_ne n1
    rw [List.map_eq_nil_iff] at e
    exact this e
  · obtain ⟨l, hl, rfl⟩ := List.mem_map.mp hx
    exact ⟨hl, rfl, fun m hm' => hm _ (List.mem_map.mpr ⟨m, hm', rfl⟩)⟩
end
end Ew
namespace Ew
open PySem PySem.Spec PyProof.Rows L2
section
variable {P : Program} {w : World} {K : PySem.W.Frag} {mg : Str → Option Value} {base : Heap} {C SB RE tb : Addr}
abbrev areGood (b : Bk) (as : List Int) : Bool := match extB b (noRowsB b) as with
  | .inl _ => true
  | .inr _ => false
def canReadB (b : Bk) (as : List Int) (r z : Int) : Bool := if (decide ((at_ b.rs r).1 = 0) || (decide (at_ b.ds z = 0) || !decide (z ∈ (at_ b.rs r).2))) = true then false else areGood (withD (withR b r ((at_ b.rs r).1 - 1) ((at_ b.rs r).2.filter fun y => !decide (y = z))) z (at_ b.ds z - 1)) as
def canLeaveB (b : Bk) (as : List Int) (r z : Int) : Bool := areGood (withR b r (at_ b.rs r).1 ((at_ b.rs r).2.filter fun y => !decide (y = z))) as
theorem ev_goodA {K : PySem.W.Frag} {C : Addr} {S : List Addr} {H : Hp} {σ : L2.St} {ta tb : TE} {b : Bk} {as : List Int} (h1 : Ev (kBk (K := K) (C := C)) S H ta σ b) (h2 : Ev (kT (kI (K := K) (C := C))) S H tb σ as) (fr : Fr C S H) : Ev (kExt (K := K) (C := C)) S H (tCall (sp_good_rows K C) [] C8.E0 (tCons ta (tCons tb tNil))) σ (extB b (noRowsB b) as) := ev_good (eva_cons h1 (eva_cons h2 eva_nil)) fr
def ynS : List (List Int) ⊕ List Int → Str
  | .inl _ => "yes"
  | .inr _ => "no"
theorem ev_extY {K : PySem.W.Frag} {C : Addr} {S : List Addr} {H : Hp} {σ : L2.St} {te : TE} {x : List (List Int) ⊕ List Int} (h : Ev (kExt (K := K) (C := C)) S H te σ x) : Ev (K := K) (C := C) kS S H (tOp (rIxT K) te (tC (.int 0))) σ (ynS x) := by
  cases x with
  | inl y => exact ev_ext0 h
  | inr y => exact ev_ext0 h
theorem areGood_yn {x : List (List Int) ⊕ List Int} : decide (ynS x = "yes") = (match x with
  | .inl _ => true
  | .inr _ => false) := by
  cases x with
  | inl y => show decide (("yes" : Str) = "yes") = true; decide +kernel
  | inr y => show decide (("no" : Str) = "yes") = false; decide +kernel
theorem rdOk_at {b : Bk} {r : Int} (ok : DsOk b.ds b.rs) (h : 0 ≤ r ∧ r < (b.rs.length : Int)) : RdOk b.ds.length (at_ b.rs r) := ok.ok _ (at_mem h)
theorem rdOk_less {n : Int} {x : Int × List Int} {p : Int → Bool} {l : Int} (h : RdOk n x) (h0 : 0 ≤ l) (h1 : l ≤ x.1) : RdOk n (l, x.2.filter p) := ⟨h0, Int.le_trans h1 h.2.1, h.2.2.1.filter _, fun y hy => h.2.2.2 y (List.mem_filter.mp hy).1⟩

abbrev sAreG : Stmt := (top 40)
def sp_are_good_rows (K : PySem.W.Frag) (C : Addr) : Sp := spD (K := K) (C := C) (aC kBk (aC (kT kI) aN)) kB (fun (b , as , _) => True) fun (b, as, _) => areGood b as
theorem scAreG : FnScope ["book", "absent"] ["book", "absent"] (defScope sAreG) := ⟨rfl, rfl, rfl, by decide +kernel, rfl, by decide +kernel, by decide +kernel⟩
theorem c_are_good_rows (D : DefAt K mg "are_good_rows" sAreG ["book", "absent"]) (B : Bi mg) (T : BkC P w K mg base C)  (c_good_rows : C8.Cal P w K mg base 7 "good_rows" (sp_good_rows K C) []) : C8.Cal P w K mg base 8 "are_good_rows" (sp_are_good_rows K C) [] := by
  refine calD D scAreG rfl fun f cdv A outer s H vs Q E S a hr fr ha hp q => ?_
  obtain ⟨b, as, _⟩ := a
  obtain ⟨w_book, _, rfl, h_book, w_absent, _, rfl, h_absent, e⟩ := ha
  cases (show _ = [] from e)
  have h_book : (kBk : Kd K C _).rp S H w_book b := h_book
  have h_absent : ((kT kI) : Kd K C _).rp S H w_absent as := h_absent
  have ok_book := kBk.ok h_book
  have r6_book := ok_book.r6
  have n6_book := ok_book.n6
  have n1_book := ok_book.n1
  have n_absent := kT_len h_absent
  have q : ∀ v H', Same H H' → (kB : Kd K C _).rp S H' v (areGood b as) → Q v H' := q

  refine ⟨_, (pss_one (ps_ret (pe_cmpR op_eq (pe_ix ix_tup (C8.pe_c c_good_rows hr (by decide) (by rfl) (pa_cons (pv 0) (pa_cons (pv 1) pa_nil))) pe_int (fun _ _ => rfl)) pe_str (nomark _)))), ?_⟩
  try dsimp only [cxOf, Cx.nox, Cx.wish]
  exact s_ret (Ev.to (ev_eqS (ev_extY (ev_goodA (ev_var rfl h_book Lf.refl) (ev_var rfl h_absent Lf.refl) fr)) ev_str) areGood_yn) fun v H' s' r => q v H' s' r

set_option maxHeartbeats 0 in
abbrev sCanR : Stmt := (top 43)
def sp_can_read (K : PySem.W.Frag) (C : Addr) : Sp := spD (K := K) (C := C) (aC kBk (aC (kT kI) (aC kI (aC kI aN)))) kB (fun (b , as , r , z , _) => (0 ≤ r ∧ r < (b.rs.length : Int)) ∧ 0 ≤ z ∧ z < (b.ds.length : Int)) fun (b, as, r, z, _) => canReadB b as r z
theorem scCanR : FnScope ["book", "absent", "reader", "work", "limit", "may", "demand", "others", "other", "left"] ["book", "absent", "reader", "work"] (defScope sCanR) := ⟨rfl, rfl, rfl, by decide +kernel, rfl, by decide +kernel, by decide +kernel⟩
theorem c_can_read (D : DefAt K mg "can_read" sCanR ["book", "absent", "reader", "work"]) (B : Bi mg) (T : BkC P w K mg base C)  (c_with_reader : C8.Cal P w K mg base 6 "with_reader" (sp_with_reader K C) []) (c_with_demand : C8.Cal P w K mg base 6 "with_demand" (sp_with_demand K C) []) (c_are_good_rows : C8.Cal P w K mg base 8 "are_good_rows" (sp_are_good_rows K C) []) : C8.Cal P w K mg base 9 "can_read" (sp_can_read K C) [] := by
  refine calD D scCanR rfl fun f cdv A outer s H vs Q E S a hr fr ha hp q => ?_
  obtain ⟨b, as, r, z, _⟩ := a
  obtain ⟨w_book, _, rfl, h_book, w_absent, _, rfl, h_absent, w_reader, _, rfl, h_reader, w_work, _, rfl, h_work, e⟩ := ha
  cases (show _ = [] from e)
  have h_book : (kBk : Kd K C _).rp S H w_book b := h_book
  have h_absent : ((kT kI) : Kd K C _).rp S H w_absent as := h_absent
  have h_reader : (kI : Kd K C _).rp S H w_reader r := h_reader
  have h_work : (kI : Kd K C _).rp S H w_work z := h_work
  have ok_book := kBk.ok h_book
  have r6_book := ok_book.r6
  have n6_book := ok_book.n6
  have n1_book := ok_book.n1
  have n_absent := kT_len h_absent
  have q : ∀ v H', Same H H' → (kB : Kd K C _).rp S H' v (canReadB b as r z) → Q v H' := q
  obtain ⟨u1, u2⟩ : (0 ≤ r ∧ r < (b.rs.length : Int)) ∧ 0 ≤ z ∧ z < (b.ds.length : Int) := hp
  have rok := rdOk_at ok_book u1
  have hmay : (at_ b.rs r).2.length ≤ 1000000 := by have := asc_len rok.2.2.1 rok.2.2.2; omega
  have hd6 := ok_book.d6 _ (at_mem (l := b.ds) (i := z) u2)
  refine ⟨_, (pss_cons (ps_asg (pe_ix ix_list (C8.pe_mt0 T.rd hr (by decide) (pv 0)) (pv 2) (fun _ _ => rfl)) (pg_tup (by rfl) (pgs_cons (pg_name (i := 4) scCanR.nd rfl (.inl rfl)) (pgs_cons (pg_name (i := 5) scCanR.nd rfl (.inl rfl)) pgs_nil))))
 (pss_cons (ps_set (i := 6) scCanR.nd rfl (.inl rfl) (pe_ix ix_list (C8.pe_mt0 T.dem hr (by decide) (pv 0)) (pv 3) (fun _ _ => rfl)))
 (pss_cons (ps_if (PW.pt (pw_or (pt_cmpR op_eq (pv 4) pe_int (nomark _)) (pw_or (pt_cmpR op_eq (pv 6) pe_int (nomark _)) (pw_or1 (pt_cmpR op_notIn_seq (pv 3) (pv 5) (by rfl)))))) (pss_one (ps_ret pe_bl)) pss_nil)
 (pss_cons (ps_set (i := 7) scCanR.nd rfl (.inl rfl) (pe_callTy call_tuple_of (by rfl) B.tuple (by decide +kernel) (pa_cons (pe_lc (own := [("other", 8)]) (g := (gName 8)) (tt := (tTest (tOp rNe (tVar 8) (tVar 3)))) (te := (tVar 8)) rfl scCanR.nd (pi_tup (pv 5)) (blkOk_by (own := [("other", 8)]) (N := ["book", "absent", "reader", "work", "limit", "may", "demand", "others", "other", "left"]) (sc := defScope sCanR) (by decide +kernel)) (fun _ _ _ _ _ => (pg_name (i := 8) scCanR.nd rfl (.inl rfl))) (fun _ _ _ _ _ => pts_one (pt_cmpR op_ne (pv 8) (pv 3) (nomark _))) (fun _ _ _ _ _ => (pv 8))) pa_nil)))
 (pss_cons (ps_set (i := 9) scCanR.nd rfl (.inl rfl) (C8.pe_c c_with_reader hr (by decide) (by rfl) (pa_cons (pv 0) (pa_cons (pv 2) (pa_cons (pe_op op_sub (pv 4) pe_int) (pa_cons (pv 7) pa_nil))))))
 (pss_one (ps_ret (C8.pe_c c_are_good_rows hr (by decide) (by rfl) (pa_cons (C8.pe_c c_with_demand hr (by decide) (by rfl) (pa_cons (pv 9) (pa_cons (pv 3) (pa_cons (pe_op op_sub (pv 6) pe_int) pa_nil)))) (pa_cons (pv 1) pa_nil)))))))))), ?_⟩
  try dsimp only [cxOf, Cx.nox, Cx.wish]
  exact q_set2 (ev_ixL (EvN.ev (evn_rd (ev_var rfl h_book Lf.refl) fr)) (ev_var rfl h_reader Lf.refl) (by first | exact u1 | exact u2)) fun a1_ b1_ H1_ s1 h10 h11 =>
    q_set (ev_ixL (EvN.ev (evn_dem (ev_var rfl h_book (Lf.same s1)) (fr.same s1))) (ev_var rfl h_work (Lf.same s1)) (by first | exact u1 | exact u2)) fun w2_ H2_ s2 h2 =>
    q_if (evt_or (evt_test (ev_eqI (ev_var rfl h10 (Lf.same s2)) ev_int)) (fun hc => (evt_or (evt_test (ev_eqI (ev_var rfl h2 Lf.refl) ev_int)) (fun hc => (evt_test (ev_nin (ev_var rfl h_work (Lf.trans (Lf.same s1) (Lf.same s2))) (ev_var rfl h11 (Lf.same s2)) IsSq.t)))))) (fun H3_ b3 s3 => s_ret (Ev.to ev_bl (by unfold canReadB; rw [if_pos b3])) fun v H' s' r => q v H' (s1.trans (s2.trans (s3.trans s'))) r) fun H3_ b3 s3 =>
    q_set (ev_tup (EvN.ev (evn_lc (((fr.same s1).same s2).same s3) (evi_tup (ev_var rfl h11 (Lf.trans (Lf.same s2) (Lf.same s3)))) hmay (fun y1 hy1 D1 v1 H1 l1 f1 hv1 => lcb_name rfl (evt_test (ev_neI (ev_var rfl hv1 Lf.refl) (ev_var rfl h_work (Lf.trans (Lf.same s1) (Lf.trans (Lf.same s2) (Lf.trans (Lf.same s3) l1)))))) (fun ht1 => (ev_var rfl hv1 Lf.refl))))) IsSq.l) fun w4_ H4_ s4 h4 =>
    q_setN (evn_call (eva_cons (ev_var rfl h_book (Lf.trans (Lf.same s1) (Lf.trans (Lf.same s2) (Lf.trans (Lf.same s3) (Lf.same s4))))) (eva_cons (ev_var rfl h_reader (Lf.trans (Lf.same s1) (Lf.trans (Lf.same s2) (Lf.trans (Lf.same s3) (Lf.same s4))))) (eva_cons (ev_I2 (ev_var rfl h10 (Lf.trans (Lf.same s2) (Lf.trans (Lf.same s3) (Lf.same s4)))) ev_int) (eva_cons (ev_var rfl h4 Lf.refl) eva_nil)))) ((((fr.same s1).same s2).same s3).same s4) ⟨u1, by dsimp only; rw [List.map_id']; exact rdOk_less rok (by simp at b3; have := rok.1; omega) (by omega)⟩) fun p5 H5_ n5 s5 h5 =>
    s_ret (Ev.to (ev_call (eva_cons (EvN.ev (evn_call (eva_cons (ev_var rfl h5 Lf.refl) (eva_cons (ev_var rfl h_work (Lf.trans (Lf.same s1) (Lf.trans (Lf.same s2) (Lf.trans (Lf.same s3) (Lf.trans (Lf.same s4) (Lf.same s5)))))) (eva_cons (ev_I2 (ev_var rfl h2 (Lf.trans (Lf.same s3) (Lf.trans (Lf.same s4) (Lf.same s5)))) ev_int) eva_nil))) (((((fr.same s1).same s2).same s3).same s4).same s5) ⟨u2, by dsimp only; simp at b3; omega⟩)) (eva_cons (ev_var rfl h_absent (Lf.trans (Lf.same s1) (Lf.trans (Lf.same s2) (Lf.trans (Lf.same s3) (Lf.trans (Lf.same s4) (Lf.same s5)))))) eva_nil)) (((((fr.same s1).same s2).same s3).same s4).same s5) trivial) (by unfold canReadB; rw [List.map_id', if_neg (by rw [b3]; exact Bool.false_ne_true)])) fun v H' s' r => q v H' (s1.trans (s2.trans (s3.trans (s4.trans (s5.trans s'))))) r

set_option maxHeartbeats 0 in
abbrev sCanL : Stmt := (top 44)
def sp_can_leave (K : PySem.W.Frag) (C : Addr) : Sp := spD (K := K) (C := C) (aC kBk (aC (kT kI) (aC kI (aC kI aN)))) kB (fun (b , as , r , z , _) => (0 ≤ r ∧ r < (b.rs.length : Int)) ∧ 0 ≤ z ∧ z < (b.ds.length : Int)) fun (b, as, r, z, _) => canLeaveB b as r z
theorem scCanL : FnScope ["book", "absent", "reader", "work", "limit", "may", "others", "other"] ["book", "absent", "reader", "work"] (defScope sCanL) := ⟨rfl, rfl, rfl, by decide +kernel, rfl, by decide +kernel, by decide +kernel⟩
theorem c_can_leave (D : DefAt K mg "can_leave" sCanL ["book", "absent", "reader", "work"]) (B : Bi mg) (T : BkC P w K mg base C)  (c_with_reader : C8.Cal P w K mg base 6 "with_reader" (sp_with_reader K C) []) (c_are_good_rows : C8.Cal P w K mg base 8 "are_good_rows" (sp_are_good_rows K C) []) : C8.Cal P w K mg base 9 "can_leave" (sp_can_leave K C) [] := by
  refine calD D scCanL rfl fun f cdv A outer s H vs Q E S a hr fr ha hp q => ?_
  obtain ⟨b, as, r, z, _⟩ := a
  obtain ⟨w_book, _, rfl, h_book, w_absent, _, rfl, h_absent, w_reader, _, rfl, h_reader, w_work, _, rfl, h_work, e⟩ := ha
  cases (show _ = [] from e)
  have h_book : (kBk : Kd K C _).rp S H w_book b := h_book
  have h_absent : ((kT kI) : Kd K C _).rp S H w_absent as := h_absent
  have h_reader : (kI : Kd K C _).rp S H w_reader r := h_reader
  have h_work : (kI : Kd K C _).rp S H w_work z := h_work
  have ok_book := kBk.ok h_book
  have r6_book := ok_book.r6
  have n6_book := ok_book.n6
  have n1_book := ok_book.n1
  have n_absent := kT_len h_absent
  have q : ∀ v H', Same H H' → (kB : Kd K C _).rp S H' v (canLeaveB b as r z) → Q v H' := q
  obtain ⟨u1, u2⟩ : (0 ≤ r ∧ r < (b.rs.length : Int)) ∧ 0 ≤ z ∧ z < (b.ds.length : Int) := hp
  have rok := rdOk_at ok_book u1
  have hmay : (at_ b.rs r).2.length ≤ 1000000 := by have := asc_len rok.2.2.1 rok.2.2.2; omega
  have hd6 := ok_book.d6 _ (at_mem (l := b.ds) (i := z) u2)
  refine ⟨_, (pss_cons (ps_asg (pe_ix ix_list (C8.pe_mt0 T.rd hr (by decide) (pv 0)) (pv 2) (fun _ _ => rfl)) (pg_tup (by rfl) (pgs_cons (pg_name (i := 4) scCanL.nd rfl (.inl rfl)) (pgs_cons (pg_name (i := 5) scCanL.nd rfl (.inl rfl)) pgs_nil))))
 (pss_cons (ps_set (i := 6) scCanL.nd rfl (.inl rfl) (pe_callTy call_tuple_of (by rfl) B.tuple (by decide +kernel) (pa_cons (pe_lc (own := [("other", 7)]) (g := (gName 7)) (tt := (tTest (tOp rNe (tVar 7) (tVar 3)))) (te := (tVar 7)) rfl scCanL.nd (pi_tup (pv 5)) (blkOk_by (own := [("other", 7)]) (N := ["book", "absent", "reader", "work", "limit", "may", "others", "other"]) (sc := defScope sCanL) (by decide +kernel)) (fun _ _ _ _ _ => (pg_name (i := 7) scCanL.nd rfl (.inl rfl))) (fun _ _ _ _ _ => pts_one (pt_cmpR op_ne (pv 7) (pv 3) (nomark _))) (fun _ _ _ _ _ => (pv 7))) pa_nil)))
 (pss_one (ps_ret (C8.pe_c c_are_good_rows hr (by decide) (by rfl) (pa_cons (C8.pe_c c_with_reader hr (by decide) (by rfl) (pa_cons (pv 0) (pa_cons (pv 2) (pa_cons (pv 4) (pa_cons (pv 6) pa_nil))))) (pa_cons (pv 1) pa_nil))))))), ?_⟩
  try dsimp only [cxOf, Cx.nox, Cx.wish]
  exact q_set2 (ev_ixL (EvN.ev (evn_rd (ev_var rfl h_book Lf.refl) fr)) (ev_var rfl h_reader Lf.refl) u1) fun a1_ b1_ H1_ s1 h10 h11 =>
    q_set (ev_tup (EvN.ev (evn_lc (fr.same s1) (evi_tup (ev_var rfl h11 Lf.refl)) hmay (fun y1 hy1 D1 v1 H1 l1 f1 hv1 => lcb_name rfl (evt_test (ev_neI (ev_var rfl hv1 Lf.refl) (ev_var rfl h_work (Lf.trans (Lf.same s1) l1)))) (fun ht1 => (ev_var rfl hv1 Lf.refl))))) IsSq.l) fun w2_ H2_ s2 h2 =>
    s_ret (Ev.to (ev_call (eva_cons (EvN.ev (evn_call (eva_cons (ev_var rfl h_book (Lf.trans (Lf.same s1) (Lf.same s2))) (eva_cons (ev_var rfl h_reader (Lf.trans (Lf.same s1) (Lf.same s2))) (eva_cons (ev_var rfl h10 (Lf.same s2)) (eva_cons (ev_var rfl h2 Lf.refl) eva_nil)))) ((fr.same s1).same s2) ⟨u1, by dsimp only; rw [List.map_id']; exact rdOk_less rok rok.1 (by omega)⟩)) (eva_cons (ev_var rfl h_absent (Lf.trans (Lf.same s1) (Lf.same s2))) eva_nil)) ((fr.same s1).same s2) trivial) (by unfold canLeaveB; rw [List.map_id'])) fun v H' s' r => q v H' (s1.trans (s2.trans s')) r

theorem q_exprX {α : Type} {K : PySem.W.Frag} {C : Addr} {ka : Ka K C α} {S : List Addr} {H : Hp} {σ : L2.St} {sp : Sp} {E : XK} {t : TA} {x : α} {u : TS} {D : Ends} (h : EvA ka S H t σ x) (q : ∀ vs H2, Same H H2 → ka.rps S H2 vs x → sp (vs ++ []) H2 (fun v H3 => u D σ H3) E) : tSeq (tDrop (tCall sp [] E t)) u D σ H := h.use q
/-- anything -/
def kU {K : PySem.W.Frag} {C : Addr} : Kd K C Unit := ⟨fun _ _ _ _ => True, fun _ h => h, fun _ _ h => h, fun _ h => h, fun _ h => h⟩
def glB (b : Bk) (ws : List (List Int)) (ps : List Int) : Int := maxL ((allSets b.ds.length).map (lackG b ws ps))
theorem MaxG.gl {b : Bk} {ws : List (List Int)} {ps : List Int} {x : Int × List Int} (h : MaxG b ws ps x) : x.1 = glB b ws ps := by
  have hm : x.1 ∈ (allSets b.ds.length).map (lackG b ws ps) := List.mem_map.mpr ⟨x.2, h.mem, h.eq.symm⟩
  have h1 := maxL_mem (List.ne_nil_of_mem hm)
  have h2 := maxL_ge hm
  obtain ⟨l, hl, e⟩ := List.mem_map.mp h1
  have h3 := h.max l hl
  unfold glB at *
  omega
theorem ev_grl {K : PySem.W.Frag} {C tb : Addr} {S : List Addr} {H : Hp} {σ : L2.St} {t : TA} {b : Bk} {ws : List (List Int)} {ps : List Int} (hT : TabQ H tb qLam) (ha : EvA (aC kBk (aC kWs (aC (kL kI) aN)) : Ka K C (Bk × List (List Int) × List Int × Unit)) S H t σ (b, ws, ps, ())) (fr : Fr C S H) (hp : (∀ r ∈ ps, 0 ≤ r ∧ r < b.rs.length) ∧ ws.length = b.rs.length) :
    Ev (K := K) (C := C) (kP kI kU) S H (tCall (sp_greatest_lack K C tb) [] C8.E0 t) σ (glB b ws ps, ()) := fun H1 s Q q => ha H1 s _ fun vs H2 s2 rv => by
  show sp_greatest_lack K C tb (vs ++ []) H2 _ _
  rw [List.append_nil]
  refine ⟨S, _, fr.same (s.trans s2), (s.trans s2).tab _ _ hT, rv, hp, fun x v H3 hx s3 r => q v H3 (s2.trans s3) ?_⟩
  obtain ⟨t, v1, v2, e, hq, h1, h2⟩ := r
  exact ⟨t, v1, v2, e, hq, by rw [← hx.gl]; exact h1, trivial⟩
theorem ev_grlA {K : PySem.W.Frag} {C tb : Addr} {S : List Addr} {H : Hp} {σ : L2.St} {t1 t2 t3 : TE} {b : Bk} {ws : List (List Int)} {ps : List Int} (hT : TabQ H tb qLam) (h1 : Ev (kBk (K := K) (C := C)) S H t1 σ b) (h2 : Ev (kWs (K := K) (C := C)) S H t2 σ ws) (h3 : Ev (kL (kI (K := K) (C := C))) S H t3 σ ps) (fr : Fr C S H) (hp : (∀ r ∈ ps, 0 ≤ r ∧ r < b.rs.length) ∧ ws.length = b.rs.length) :
    Ev (K := K) (C := C) (kP kI kU) S H (tCall (sp_greatest_lack K C tb) [] C8.E0 (tCons t1 (tCons t2 (tCons t3 tNil)))) σ (glB b ws ps, ()) := ev_grl hT (eva_cons h1 (eva_cons h2 (eva_cons h3 eva_nil))) fr hp

abbrev sPair : Stmt := (top 45)
theorem scPair : FnScope ["book", "absent", "reader", "work"] ["book", "absent", "reader", "work"] (defScope sPair) := ⟨rfl, rfl, rfl, by decide +kernel, rfl, by decide +kernel, by decide +kernel⟩
def sp_pair (K : PySem.W.Frag) (C SB : Addr) : Sp := fun vs H Q E => ∃ S a, Fr C S H ∧ ((aC kBk (aC (kT kI) (aC kI (aC kI aN)))) : Ka K C (Bk × List Int × Int × Int × Unit)).rps S H vs a ∧ ((0 ≤ a.2.2.1 ∧ a.2.2.1 < (a.1.rs.length : Int)) ∧ 0 ≤ a.2.2.2.1 ∧ a.2.2.2.1 < (a.1.ds.length : Int)) ∧
  (∀ f, extB a.1 (noRowsB a.1) a.2.1 = .inl f → ∀ v H', Same H H' → (kP (kB (K := K) (C := C)) kB).rp S H' v (canReadB a.1 a.2.1 a.2.2.1 a.2.2.2.1, canLeaveB a.1 a.2.1 a.2.2.1 a.2.2.2.1) → Q v H') ∧
  (∀ l, extB a.1 (noRowsB a.1) a.2.1 = .inr l → ∀ dx Hf wv, Same H Hf → H dx = none → Hf dx = some (.xd [(("works" : Str), wv)]) → (kT (kI (K := K) (C := C))).rp S Hf wv l → E (.ref SB) (some dx) Hf)
set_option maxHeartbeats 0 in
theorem c_pair (D : DefAt K mg "pair" sPair ["book", "absent", "reader", "work"]) (B : Bi mg) (T : BkC P w K mg base C) (c_some_good_rows : CalX P w K mg base 8 "some_good_rows" (sp_some_good_rows K C SB)) (c_can_read : C8.Cal P w K mg base 9 "can_read" (sp_can_read K C) []) (c_can_leave : C8.Cal P w K mg base 9 "can_leave" (sp_can_leave K C) []) : CalX P w K mg base 10 "pair" (sp_pair K C SB) := by
  refine calX_of D scPair (fun vs H Q E h => ?_) fun f fd F => ?_
  · obtain ⟨S, a, _, h, _⟩ := h
    rw [Ka.len _ h]
    rfl
  refine F.okX scPair (fun vs H Q E h => ?_) (fun cdv A outer s H vs Q E hr h => ?_)
  · obtain ⟨S, a, _, h, _⟩ := h
    rw [Ka.len _ h]
    rfl
  obtain ⟨S, ⟨b, as, r, z, _⟩, fr, h, ⟨u1, u2⟩, qQ, qE⟩ := h
  obtain ⟨w_book, _, rfl, h_book, w_absent, _, rfl, h_absent, w_reader, _, rfl, h_reader, w_work, _, rfl, h_work, e⟩ := h
  cases (show _ = [] from e)
  have h_book : (kBk : Kd K C _).rp S H w_book b := h_book
  have h_absent : ((kT kI) : Kd K C _).rp S H w_absent as := h_absent
  have h_reader : (kI : Kd K C _).rp S H w_reader r := h_reader
  have h_work : (kI : Kd K C _).rp S H w_work z := h_work
  refine ⟨_, (pss_cons (ps_expr (pe_cX c_some_good_rows hr (by decide) (by rfl) (passes_call (W := fun cls d _ H => E cls d H) (takes_of rfl rfl rfl rfl) (fun _ _ _ _ h => h)) (pa_cons (pv 0) (pa_cons (pv 1) pa_nil))))
 (pss_one (ps_ret (pe_tup (pa_cons (C8.pe_c c_can_read hr (by decide) (by rfl) (pa_cons (pv 0) (pa_cons (pv 1) (pa_cons (pv 2) (pa_cons (pv 3) pa_nil))))) (pa_cons (C8.pe_c c_can_leave hr (by decide) (by rfl) (pa_cons (pv 0) (pa_cons (pv 1) (pa_cons (pv 2) (pa_cons (pv 3) pa_nil))))) pa_nil)))))), ?_⟩
  try dsimp only [cxOf, Cx.nox, Cx.wish]
  refine q_exprX (K := K) (C := C) (S := S) (ka := aC kBk (aC (kT kI) aN)) (eva_cons (ev_var (i := 0) rfl h_book Lf.refl) (eva_cons (ev_var (i := 1) rfl h_absent Lf.refl) eva_nil)) fun vs1 H0 s0 rv1 => ?_
  rw [List.append_nil]
  refine ⟨S, _, fr.same s0, rv1, fun f0 hf0 pb H1 npb s1 hb2 => ?_, fun l hl dx Hf wv sf nx h1 h2 => qE l hl dx Hf wv (s0.trans sf) (s0.free nx) h1 h2⟩
  have hf0 : extB b (noRowsB b) as = .inl f0 := hf0
  have qQ := qQ f0 hf0
  have s01 := s0.trans s1
  exact s_ret (K := K) (C := C) (S := S) (ev_t2 (ev_call (eva_cons (ev_var (i := 0) rfl h_book (Lf.same s01)) (eva_cons (ev_var (i := 1) rfl h_absent (Lf.same s01)) (eva_cons (ev_var (i := 2) rfl h_reader (Lf.same s01)) (eva_cons (ev_var (i := 3) rfl h_work (Lf.same s01)) eva_nil)))) (fr.same s01) ⟨u1, u2⟩) (ev_call (eva_cons (ev_var (i := 0) rfl h_book (Lf.same s01)) (eva_cons (ev_var (i := 1) rfl h_absent (Lf.same s01)) (eva_cons (ev_var (i := 2) rfl h_reader (Lf.same s01)) (eva_cons (ev_var (i := 3) rfl h_work (Lf.same s01)) eva_nil)))) (fr.same s01) ⟨u1, u2⟩)) fun v H2 s2 r2 => qQ v H2 (s01.trans s2) r2

def readGB (b : Bk) (as : List Int) (r : Int) : Int × Int := (max (glB b (noRowsB b) ((presB b as).filter fun y => !decide (y = r))) 0, min (at_ b.rs r).1 (((at_ b.rs r).2.filter fun z => decide (0 < at_ b.ds z)).length : Nat))
theorem noLen (b : Bk) : (noRowsB b).length = b.rs.length := by unfold noRowsB; rw [List.length_map]
theorem presLen {b : Bk} {as : List Int} (ok : DsOk b.ds b.rs) : (presB b as).length ≤ 1000000 := by
  have h1 := List.length_filter_le (fun r => !decide (r ∈ as)) (iota b.rs.length)
  have h2 := ok.r6
  rw [iota_len] at h1
  unfold presB
  omega
abbrev sReadg : Stmt := (top 46)
theorem scReadg : FnScope ["book", "absent", "reader", "others", "other", "least", "_", "limit", "may", "demands", "wanted", "work"] ["book", "absent", "reader"] (defScope sReadg) := ⟨rfl, rfl, rfl, by decide +kernel, rfl, by decide +kernel, by decide +kernel⟩
def sp_readings (K : PySem.W.Frag) (C SB tb : Addr) : Sp := fun vs H Q E => ∃ S a, Fr C S H ∧ TabQ H tb qLam ∧ ((aC kBk (aC (kT kI) (aC kI aN))) : Ka K C (Bk × List Int × Int × Unit)).rps S H vs a ∧ (0 ≤ a.2.2.1 ∧ a.2.2.1 < (a.1.rs.length : Int)) ∧
  (∀ f, extB a.1 (noRowsB a.1) a.2.1 = .inl f → ∀ v H', Same H H' → (kP (kI (K := K) (C := C)) kI).rp S H' v (readGB a.1 a.2.1 a.2.2.1) → Q v H') ∧
  (∀ l, extB a.1 (noRowsB a.1) a.2.1 = .inr l → ∀ dx Hf wv, Same H Hf → H dx = none → Hf dx = some (.xd [(("works" : Str), wv)]) → (kT (kI (K := K) (C := C))).rp S Hf wv l → E (.ref SB) (some dx) Hf)
set_option maxHeartbeats 0 in
theorem c_readings (D : DefAt K mg "readings" sReadg ["book", "absent", "reader"]) (B : Bi mg) (T : BkC P w K mg base C) (c_some_good_rows : CalX P w K mg base 8 "some_good_rows" (sp_some_good_rows K C SB)) (c_present_readers : C8.Cal P w K mg base 2 "present_readers" (sp_present_readers K C) []) (c_greatest_lack : C8.Cal P w K mg base 4 "greatest_lack" (sp_greatest_lack K C tb) []) (c_nobody_reads : C8.Cal P w K mg base 2 "nobody_reads" (sp_nobody_reads K C) []) : CalX P w K mg base 10 "readings" (sp_readings K C SB tb) := by
  refine calX_of D scReadg (fun vs H Q E h => ?_) fun f fd F => ?_
  · obtain ⟨S, a, _, _, h, _⟩ := h
    rw [Ka.len _ h]
    rfl
  refine F.okX scReadg (fun vs H Q E h => ?_) (fun cdv A outer s H vs Q E hr h => ?_)
  · obtain ⟨S, a, _, _, h, _⟩ := h
    rw [Ka.len _ h]
    rfl
  obtain ⟨S, ⟨b, as, r, _⟩, fr, hT, h, u1, qQ, qE⟩ := h
  obtain ⟨w_book, _, rfl, h_book, w_absent, _, rfl, h_absent, w_reader, _, rfl, h_reader, e⟩ := h
  cases (show _ = [] from e)
  have h_book : (kBk : Kd K C _).rp S H w_book b := h_book
  have h_absent : ((kT kI) : Kd K C _).rp S H w_absent as := h_absent
  have h_reader : (kI : Kd K C _).rp S H w_reader r := h_reader
  have u1 : 0 ≤ r ∧ r < (b.rs.length : Int) := u1
  have ok := kBk.ok h_book
  have rok := rdOk_at ok u1
  have hmay : (at_ b.rs r).2.length ≤ 1000000 := by have := asc_len rok.2.2.1 rok.2.2.2; have := ok.n6; omega
  have u4 : ∀ y ∈ (at_ b.rs r).2, 0 ≤ y ∧ y < (b.ds.length : Int) := rok.2.2.2
  have hin : ∀ x ∈ (((presB b as).filter fun y => !decide (y = r)).map fun y => y), 0 ≤ x ∧ x < (b.rs.length : Int) := fun x hx => by
    rw [List.map_id'] at hx
    exact (presB_mem.mp (List.mem_filter.mp hx).1).1
  refine ⟨_, (pss_cons (ps_expr (pe_cX c_some_good_rows hr (by decide) (by rfl) (passes_call (W := fun cls d _ H => E cls d H) (takes_of rfl rfl rfl rfl) (fun _ _ _ _ h => h)) (pa_cons (pv 0) (pa_cons (pv 1) pa_nil))))
 (pss_cons (ps_setLc (i := 3) (own := [("other", 4)]) (g := (gName 4)) (tt := (tTest (tOp rNe (tVar 4) (tVar 2)))) (te := (tVar 4)) (by rfl) scReadg.nd rfl rfl (sw_true rfl rfl rfl (by decide +kernel)) (pi_list (C8.pe_c c_present_readers hr (by decide) (by rfl) (pa_cons (pv 0) (pa_cons (pv 1) pa_nil)))) (blkOk_by (own := [("other", 4)]) (N := ["book", "absent", "reader", "others", "other", "least", "_", "limit", "may", "demands", "wanted", "work"]) (sc := defScope sReadg) (by decide +kernel)) (fun _ _ _ _ _ => (pg_name (i := 4) scReadg.nd rfl (.inl rfl))) (fun _ _ _ _ _ => pts_one (pt_cmpR op_ne (pv 4) (pv 2) (nomark _))) (fun _ _ _ _ _ => (pv 4)))
 (pss_cons (ps_asg (C8.pe_c c_greatest_lack hr (by decide) (by rfl) (pa_cons (pv 0) (pa_cons (C8.pe_c c_nobody_reads hr (by decide) (by rfl) (pa_cons (pv 0) pa_nil)) (pa_cons (pv 3) pa_nil)))) (pg_tup (by rfl) (pgs_cons (pg_name (i := 5) scReadg.nd rfl (.inl rfl)) (pgs_cons (pg_name (i := 6) scReadg.nd rfl (.inl rfl)) pgs_nil))))
 (pss_cons (ps_asg (pe_ix ix_list (C8.pe_mt0 T.rd hr (by decide) (pv 0)) (pv 2) (fun _ _ => rfl)) (pg_tup (by rfl) (pgs_cons (pg_name (i := 7) scReadg.nd rfl (.inl rfl)) (pgs_cons (pg_name (i := 8) scReadg.nd rfl (.inl rfl)) pgs_nil))))
 (pss_cons (ps_set (i := 9) scReadg.nd rfl (.inr rfl) (C8.pe_mt0 T.dem hr (by decide) (pv 0)))
 (pss_cons (ps_setLc (i := 10) (own := [("work", 11)]) (g := (gName 11)) (tt := (tTest (tOp (rI0 fun i j => .bl (decide (j < i))) (tOp (rIxL K) (tVar 9) (tVar 11)) (tC (.int 0))))) (te := (tVar 11)) (by rfl) scReadg.nd rfl rfl (sw_true rfl rfl rfl (by decide +kernel)) (pi_tup (pv 8)) (blkOk_by (own := [("work", 11)]) (N := ["book", "absent", "reader", "others", "other", "least", "_", "limit", "may", "demands", "wanted", "work"]) (sc := defScope sReadg) (by decide +kernel)) (fun _ _ _ _ _ => (pg_name (i := 11) scReadg.nd rfl (.inl rfl))) (fun _ _ _ _ _ => pts_one (pt_cmpR op_gt (pe_ix ix_list (pv 9) (pv 11) (fun _ _ => rfl)) pe_int (nomark _))) (fun _ _ _ _ _ => (pv 11)))
 (pss_one (ps_ret (pe_tup (pa_cons (pe_callB (call_max2 rfl) (by rfl) B.max (by decide +kernel) (pa_cons (pv 5) (pa_cons pe_int pa_nil))) (pa_cons (pe_callB (call_min2 rfl) (by rfl) B.min (by decide +kernel) (pa_cons (pv 7) (pa_cons (pe_callB call_len_seq (by rfl) B.len PySem.boot_len (pa_cons (pv 10) pa_nil)) pa_nil))) pa_nil))))))))))), ?_⟩
  try dsimp only [cxOf, Cx.nox, Cx.wish]
  refine q_exprX (K := K) (C := C) (S := S) (ka := aC kBk (aC (kT kI) aN)) (eva_cons (ev_var (i := 0) rfl h_book Lf.refl) (eva_cons (ev_var (i := 1) rfl h_absent Lf.refl) eva_nil)) fun vs1 H0 s0 rv1 => ?_
  rw [List.append_nil]
  refine ⟨S, _, fr.same s0, rv1, fun f0 hf0 pb H1 npb s1 hb2 => ?_, fun l hl dx Hf wv sf nx h1 h2 => qE l hl dx Hf wv (s0.trans sf) (s0.free nx) h1 h2⟩
  have hf0 : extB b (noRowsB b) as = .inl f0 := hf0
  have qQ := qQ f0 hf0
  have s01 := s0.trans s1
  refine q_setN (K := K) (C := C) (S := S) (evn_lc (fr.same s01) (evi_list (EvN.ev (evn_call (eva_cons (ev_var (i := 0) rfl h_book (Lf.same s01)) (eva_cons (ev_var (i := 1) rfl h_absent (Lf.same s01)) eva_nil)) (fr.same s01) (by first | trivial | exact ⟨fun x hx => hin x hx, noLen b⟩)))) (by first | exact hmay | (show (presB b as).length ≤ 1000000; exact presLen ok)) (fun y1 hy1 D1 v1 H1 l1 f1 hv1 => lcb_name rfl (evt_test (ev_neI (ev_var rfl hv1 Lf.refl) (ev_var (i := 2) rfl h_reader (Lf.trans (Lf.same s01) l1)))) (fun ht1 => (ev_var rfl hv1 Lf.refl)))) fun p2 H2 n2 s2 h_others => ?_
  refine q_set2 (K := K) (C := C) (S := S) (ev_grlA ((s01.trans s2).tab _ _ hT) (ev_var (i := 0) rfl h_book (Lf.trans (Lf.same s01) (Lf.same s2))) (EvN.ev (evn_call (eva_cons (ev_var (i := 0) rfl h_book (Lf.trans (Lf.same s01) (Lf.same s2))) eva_nil) ((fr.same s01).same s2) (by first | trivial | exact ⟨fun x hx => hin x hx, noLen b⟩))) (ev_var (i := 3) rfl h_others Lf.refl) ((fr.same s01).same s2) ⟨hin, noLen b⟩) fun w31 w32 H3 s3 h_least h__ => ?_
  refine q_set2 (K := K) (C := C) (S := S) (ev_ixL (EvN.ev (evn_rd (ev_var (i := 0) rfl h_book (Lf.trans (Lf.same s01) (Lf.trans (Lf.same s2) (Lf.same s3)))) (((fr.same s01).same s2).same s3))) (ev_var (i := 2) rfl h_reader (Lf.trans (Lf.same s01) (Lf.trans (Lf.same s2) (Lf.same s3)))) (by first | exact u1 | exact u4 _ hy2)) fun w41 w42 H4 s4 h_limit h_may => ?_
  refine q_setN (K := K) (C := C) (S := S) (evn_dem (ev_var (i := 0) rfl h_book (Lf.trans (Lf.same s01) (Lf.trans (Lf.same s2) (Lf.trans (Lf.same s3) (Lf.same s4))))) ((((fr.same s01).same s2).same s3).same s4)) fun p5 H5 n5 s5 h_demands => ?_
  refine q_setN (K := K) (C := C) (S := S) (evn_lc (((((fr.same s01).same s2).same s3).same s4).same s5) (evi_tup (ev_var (i := 8) rfl h_may (Lf.same s5))) (by first | exact hmay | (show (presB b as).length ≤ 1000000; exact presLen ok)) (fun y2 hy2 D2 v2 H2 l2 f2 hv2 => lcb_name rfl (evt_test (ev_B2 (ev_ixL (ev_var (i := 9) rfl h_demands l2) (ev_var rfl hv2 Lf.refl) (by first | exact u1 | exact u4 _ hy2)) ev_int)) (fun ht2 => (ev_var rfl hv2 Lf.refl)))) fun p6 H6 n6 s6 h_wanted => ?_
  refine s_ret (K := K) (C := C) (S := S) (Ev.to (x' := readGB b as r) (ev_t2 (ev_mm (ev_var (i := 5) rfl h_least (Lf.trans (Lf.same s4) (Lf.trans (Lf.same s5) (Lf.same s6)))) ev_int) (ev_mm (ev_var (i := 7) rfl h_limit (Lf.trans (Lf.same s5) (Lf.same s6))) (ev_len (ev_var (i := 10) rfl h_wanted Lf.refl) IsSq.l))) ?_) fun v H7 s7 r7 => qQ v H7 (s01.trans (s2.trans (s3.trans (s4.trans (s5.trans (s6.trans s7)))))) r7
  unfold readGB
  rw [List.map_id', List.map_id']
  refine Prod.ext ?_ ?_
  · dsimp only
    split <;> omega
  · dsimp only
    split <;> omega

def lwB (b : Bk) (r : Int) (l : List Int) : Bk := ⟨l.foldl (fun ds z => ds.set z.toNat (at_ b.ds z - 1)) b.ds, b.rs.set r.toNat (0, [])⟩
def goodWithB (b : Bk) (as : List Int) (r : Int) (l : List Int) : Option (List (List Int)) := if (decide ((at_ b.rs r).1 < (l.length : Int)) || !(l.all fun z => decide (z ∈ (at_ b.rs r).2) && decide (0 < at_ b.ds z))) = true then none else match extB (lwB b r l) (noRowsB (lwB b r l)) as with
  | .inl f => some ((enum f).map fun p => if decide (p.1 = r) = true then l else p.2)
  | .inr _ => none
theorem lw_ds {b : Bk} {r : Int} {l : List Int} : (lwB b r l).ds.length = b.ds.length := by
  unfold lwB
  dsimp only
  generalize hd : b.ds = ds
  have h : ∀ (l : List Int) (e : List Int), (l.foldl (fun ds z => ds.set z.toNat (at_ b.ds z - 1)) e).length = e.length := fun l => by
    induction l with
    | nil => intro e; rfl
    | cons z l ih => intro e; rw [List.foldl_cons, ih, List.length_set]
  rw [← hd]
  exact h l _
theorem lw_snoc {b : Bk} {r z : Int} {l : List Int} : withD (lwB b r l) z (at_ b.ds z - 1) = lwB b r (l ++ [z]) := by
  unfold withD lwB
  rw [List.foldl_append]
  rfl
abbrev sGoodW : Stmt := (top 47)
theorem scGoodW : FnScope ["book", "absent", "reader", "works", "limit", "may", "demands", "work", "left", "kind", "found", "other", "row"] ["book", "absent", "reader", "works"] (defScope sGoodW) := ⟨rfl, rfl, rfl, by decide +kernel, rfl, by decide +kernel, by decide +kernel⟩
def sp_good_with (K : PySem.W.Frag) (C : Addr) : Sp := fun vs H Q _ => ∃ S a, Fr C S H ∧ ((aC kBk (aC (kT kI) (aC kI (aC (kT kI) aN)))) : Ka K C (Bk × List Int × Int × List Int × Unit)).rps S H vs a ∧ ((0 ≤ a.2.2.1 ∧ a.2.2.1 < (a.1.rs.length : Int)) ∧ a.2.2.2.1.length ≤ 1000000 ∧ ∀ z ∈ a.2.2.2.1, 0 ≤ z ∧ z < (a.1.ds.length : Int)) ∧
  (goodWithB a.1 a.2.1 a.2.2.1 a.2.2.2.1 = none → ∀ H', Same H H' → Q .non H') ∧ (∀ g, goodWithB a.1 a.2.1 a.2.2.1 a.2.2.2.1 = some g → ∀ p H', H p = none → Same H H' → (kWs (K := K) (C := C)).rp S H' (.ref p) g → Q (.ref p) H')
set_option maxHeartbeats 0 in
theorem c_good_with (D : DefAt K mg "good_with" sGoodW ["book", "absent", "reader", "works"]) (B : Bi mg) (T : BkC P w K mg base C) (c_with_reader : C8.Cal P w K mg base 6 "with_reader" (sp_with_reader K C) []) (c_with_demand : C8.Cal P w K mg base 6 "with_demand" (sp_with_demand K C) []) (c_good_rows : C8.Cal P w K mg base 7 "good_rows" (sp_good_rows K C) []) : C8.Cal P w K mg base 8 "good_with" (sp_good_with K C) [] := by
  refine cal_of D scGoodW (fun vs H Q E h => ?_) fun f cdv A outer s H vs Q E hr h => ?_
  · obtain ⟨S, a, _, h, _⟩ := h
    rw [Ka.len _ h]
    rfl
  obtain ⟨S, ⟨b, as, r, l, _⟩, fr, h, hp, qN, qS⟩ := h
  obtain ⟨w_book, _, rfl, h_book, w_absent, _, rfl, h_absent, w_reader, _, rfl, h_reader, w_works, _, rfl, h_works, e⟩ := h
  cases (show _ = [] from e)
  have h_book : (kBk : Kd K C _).rp S H w_book b := h_book
  have h_absent : ((kT kI) : Kd K C _).rp S H w_absent as := h_absent
  have h_reader : (kI : Kd K C _).rp S H w_reader r := h_reader
  have h_works : ((kT kI) : Kd K C _).rp S H w_works l := h_works
  obtain ⟨u1, hl, u2⟩ : (0 ≤ r ∧ r < (b.rs.length : Int)) ∧ l.length ≤ 1000000 ∧ ∀ z ∈ l, 0 ≤ z ∧ z < (b.ds.length : Int) := hp
  have qN : goodWithB b as r l = none → ∀ H', Same H H' → Q .non H' := qN
  have qS : ∀ g, goodWithB b as r l = some g → ∀ p H', H p = none → Same H H' → (kWs (K := K) (C := C)).rp S H' (.ref p) g → Q (.ref p) H' := qS
  have ok := kBk.ok h_book
  refine ⟨_, (pss_cons (ps_asg (pe_ix ix_list (C8.pe_mt0 T.rd hr (by decide) (pv 0)) (pv 2) (fun _ _ => rfl)) (pg_tup (by rfl) (pgs_cons (pg_name (i := 4) scGoodW.nd rfl (.inl rfl)) (pgs_cons (pg_name (i := 5) scGoodW.nd rfl (.inr rfl)) pgs_nil))))
 (pss_cons (ps_set (i := 6) scGoodW.nd rfl (.inr rfl) (C8.pe_mt0 T.dem hr (by decide) (pv 0)))
 (pss_cons (ps_if (PW.pt (pw_or (pt_cmpR op_gt (pe_callB call_len_seq (by rfl) B.len PySem.boot_len (pa_cons (pv 3) pa_nil)) (pv 4) (nomark _)) (pw_or1 (pt_not (pt_val (pe_callB (cr_all rfl) (by rfl) B.all (by decide +kernel) (pa_cons (pe_lc (own := [("work", 7)]) (g := (gName 7)) (tt := tYes) (te := (tAndV (tOp (rIn K false) (tVar 7) (tVar 5)) (tOp (rI0 fun i j => .bl (decide (j < i))) (tOp (rIxL K) (tVar 6) (tVar 7)) (tC (.int 0))))) rfl scGoodW.nd (pi_tup (pv 3)) (blkOk_by (own := [("work", 7)]) (N := ["book", "absent", "reader", "works", "limit", "may", "demands", "work", "left", "kind", "found", "other", "row"]) (sc := defScope sGoodW) (by decide +kernel)) (fun _ _ _ _ _ => (pg_name (i := 7) scGoodW.nd rfl (.inl rfl))) (fun _ _ _ _ _ => pts_nil) (fun _ _ _ _ _ => (pe_and (pe_cmpR op_in_seq (pv 7) (pv 5) (by rfl)) (pe_one (pe_cmpR op_gt (pe_ix ix_list (pv 6) (pv 7) (fun _ _ => rfl)) pe_int (nomark _)))))) pa_nil))))))) (pss_one (ps_ret pe_non)) pss_nil)
 (pss_cons (ps_set (i := 8) scGoodW.nd rfl (.inl rfl) (C8.pe_c c_with_reader hr (by decide) (by rfl) (pa_cons (pv 0) (pa_cons (pv 2) (pa_cons pe_int (pa_cons (pe_tup pa_nil) pa_nil))))))
 (pss_cons (ps_for PassesOwn.never rfl (pi_tup (pv 3)) (pg_name (i := 7) scGoodW.nd rfl (.inl rfl)) (pss_one (ps_set (i := 8) scGoodW.nd rfl (.inl rfl) (C8.pe_c c_with_demand hr (by decide) (by rfl) (pa_cons (pv 8) (pa_cons (pv 7) (pa_cons (pe_op op_sub (pe_ix ix_list (pv 6) (pv 7) (fun _ _ => rfl)) pe_int) pa_nil)))))))
 (pss_cons (ps_asg (C8.pe_c c_good_rows hr (by decide) (by rfl) (pa_cons (pv 8) (pa_cons (pv 1) pa_nil))) (pg_tup (by rfl) (pgs_cons (pg_name (i := 9) scGoodW.nd rfl (.inl rfl)) (pgs_cons (pg_name (i := 10) scGoodW.nd rfl (.inl rfl)) pgs_nil))))
 (pss_cons (ps_if (pt_cmpR op_eq (pv 9) pe_str (nomark _)) (pss_one (ps_ret pe_non)) pss_nil)
 (pss_one (ps_ret (pe_lc (own := [("other", 11), ("row", 12)]) (g := (gTup K 2 (gCons (gName 11) (gCons (gName 12) gNil)))) (tt := tYes) (te := (tIf (tTest (tOp rEq (tVar 11) (tVar 2))) (tVar 3) (tVar 12))) rfl scGoodW.nd (pi_enum (by rfl) B.enumerate (pa_cons (pv 10) pa_nil)) (blkOk_by (own := [("other", 11), ("row", 12)]) (N := ["book", "absent", "reader", "works", "limit", "may", "demands", "work", "left", "kind", "found", "other", "row"]) (sc := defScope sGoodW) (by decide +kernel)) (fun _ _ _ _ _ => (pg_tup (by rfl) (pgs_cons (pg_name (i := 11) scGoodW.nd rfl (.inl rfl)) (pgs_cons (pg_name (i := 12) scGoodW.nd rfl (.inl rfl)) pgs_nil)))) (fun _ _ _ _ _ => pts_nil) (fun _ _ _ _ _ => (pe_ifExp (pt_cmpR op_eq (pv 11) (pv 2) (nomark _)) (pv 3) (pv 12))))))))))))), ?_⟩
  try dsimp only [cxOf, Cx.nox, Cx.wish]
  refine q_set2 (K := K) (C := C) (S := S) (ev_ixL (EvN.ev (evn_rd (ev_var (i := 0) rfl h_book Lf.refl) fr)) (ev_var (i := 2) rfl h_reader Lf.refl) (by first | exact u1 | exact u2 _ hy1)) fun w11 w12 H1 s1 h_limit h_may => ?_
  refine q_setN (K := K) (C := C) (S := S) (evn_dem (ev_var (i := 0) rfl h_book (Lf.same s1)) (fr.same s1)) fun p2 H2 n2 s2 h_demands => ?_
  refine q_if (evt_or (evt_test (ev_B2 (ev_len (ev_var (i := 3) rfl h_works (Lf.trans (Lf.same s1) (Lf.same s2))) IsSq.t) (ev_var (i := 4) rfl h_limit (Lf.same s2)))) (fun hc => (evt_not (evt_b (ev_all (EvN.ev (evn_lc ((fr.same s1).same s2) (evi_tup (ev_var (i := 3) rfl h_works (Lf.trans (Lf.same s1) (Lf.same s2)))) hl (fun y1 hy1 D1 v1 H1 l1 f1 hv1 => lcb_name rfl evt_yes (fun ht1 => (ev_andV (ev_in (ev_var rfl hv1 Lf.refl) (ev_var (i := 5) rfl h_may (Lf.trans (Lf.same s2) l1)) IsSq.t) (fun _ => (ev_B2 (ev_ixL (ev_var (i := 6) rfl h_demands l1) (ev_var rfl hv1 Lf.refl) (by first | exact u1 | exact u2 _ hy1)) ev_int)))))))))))) (fun H3 hb3 s3 => ?_) fun H3 hb3 s3 => ?_
  · exact s_ret (K := K) (C := C) (S := S) (k := kN) (x := ()) ev_non fun v H4 s4 r4 => by
      cases (show v = .non from r4)
      refine qN ?_ H4 (s1.trans (s2.trans (s3.trans s4)))
      unfold goodWithB
      rw [if_pos]
      simpa using hb3
  have hb3' : ¬ (decide ((at_ b.rs r).1 < (l.length : Int)) || !(l.all fun z => decide (z ∈ (at_ b.rs r).2) && decide (0 < at_ b.ds z))) = true := by
    rw [List.filter_eq_self.mpr (fun _ _ => rfl), List.all_map] at hb3
    have h3 : (decide ((at_ b.rs r).1 < (l.length : Int)) || !(l.all fun z => decide (z ∈ (at_ b.rs r).2) && decide (0 < at_ b.ds z))) = false := hb3
    rw [h3]
    exact Bool.false_ne_true
  have hall : ∀ z ∈ l, 0 < at_ b.ds z := fun z hz => by
    have h3 := hb3'
    simp only [Bool.or_eq_true, Bool.not_eq_true', not_or, List.all_eq_false, not_exists] at h3
    have := h3.2 z
    simp [hz] at this
    exact this.2
  have hpos : ∀ z ∈ l, 0 ≤ at_ b.ds z - 1 ∧ at_ b.ds z - 1 ≤ 6 := fun z hz => by
    have h1 := hall z hz
    have h2 := (ok.d6 _ (at_mem (l := b.ds) (i := z) (u2 z hz))).2
    omega
  refine q_setN (K := K) (C := C) (S := S) (evn_call (eva_cons (ev_var (i := 0) rfl h_book (Lf.trans (Lf.same s1) (Lf.trans (Lf.same s2) (Lf.same s3)))) (eva_cons (ev_var (i := 2) rfl h_reader (Lf.trans (Lf.same s1) (Lf.trans (Lf.same s2) (Lf.same s3)))) (eva_cons ev_int (eva_cons (ev_t0 (k := (kI : Kd K C _))) eva_nil)))) (((fr.same s1).same s2).same s3) (by first | trivial | exact ⟨u1, Int.le_refl 0, (show (0 : Int) ≤ 6 by decide), List.Pairwise.nil, fun x hx => nomatch hx⟩)) fun p4 H4 n4 s4 h_left => ?_
  have h_left : (kBk : Kd K C _).rp S H4 (.ref p4) (lwB b r []) := h_left
  have s04 := s1.trans (s2.trans (s3.trans s4))
  refine s_for (kx := (kI : Kd K C _)) (S := S) (evi_tup (ev_var (i := 3) rfl h_works (Lf.same s04))) fun H5 s5 => ⟨fun i σ' H' => ∃ (y7 : Option V) (pv : V), σ' = [some w_book, some w_absent, some w_reader, some w_works, some w11, some w12, some (.ref p2), y7, some pv, none, none, none, none] ∧ Same H5 H' ∧ (kBk : Kd K C _).rp S H' pv (lwB b r (l.take i)),
    ⟨none, _, rfl, Same.refl _, (kBk : Kd K C _).same s5 h_left⟩, fun i σ' H' ⟨_, _, _, h, _⟩ => Lf.same h, ?_, ?_⟩
  · rintro i z σ' H8 v8 H9 hzi ⟨y7, pv, rfl, s8, hb8⟩ s9 hv9
    have hz : z ∈ l := List.mem_of_getElem? hzi
    have hw9 : (kI : Kd K C _).rp S H9 v8 z := hv9
    have hl9 := (kBk : Kd K C _).same s9 hb8
    have hd9 := (kL kI : Kd K C _).same ((s3.trans s4).trans (s5.trans (s8.trans s9))) h_demands
    have fr9 := fr.same (s04.trans (s5.trans (s8.trans s9)))
    refine s_setN (K := K) (C := C) (S := S) (evn_call (eva_cons (ev_var rfl hl9 Lf.refl) (eva_cons (ev_var rfl hw9 Lf.refl) (eva_cons (ev_I2 (ev_ixL (ev_var rfl hd9 Lf.refl) (ev_var rfl hw9 Lf.refl) (u2 _ hz)) ev_int) eva_nil))) fr9 ⟨by rw [lw_ds]; exact u2 _ hz, hpos z hz⟩) fun p10 H10 n10 s10 r10 => ⟨_, _, rfl, s8.trans (s9.trans s10), ?_⟩
    rw [take_more hzi, ← lw_snoc]
    exact r10
  · rintro σ' HE ⟨y7, pv, rfl, sE, hbE⟩
    rw [List.take_length] at hbE
    have s0E := s04.trans (s5.trans sE)
    have habE := (kT kI : Kd K C _).same s0E h_absent
    refine r_good (S := S) (b := lwB b r l) (as := as) (eva_cons (ev_var (i := 8) rfl hbE Lf.refl) (eva_cons (ev_var (i := 1) rfl habE Lf.refl) eva_nil)) (fr.same s0E) fun wf H6 s6 hf6 hfresh => ?_
    cases hx : extB (lwB b r l) (noRowsB (lwB b r l)) as with
    | inl g =>
      obtain ⟨t, p, rfl, hT, hpn, hP⟩ := hfresh g hx
      refine ⟨t, _, rfl, .inl (.inl hT), rfl, _, _, rfl, _, _, rfl, rfl, ?_⟩
      have hws' : (kS : Kd K C _).rp S H6 (.str "yes") "yes" := rfl
      try dsimp only
      refine q_if (evt_test (ev_eqS (ev_var (i := 9) rfl hws' Lf.refl) ev_str)) (fun H7 hc s7 => absurd hc (by decide +kernel)) fun H7 hc s7 => ?_
      have s07 := s0E.trans (s6.trans s7)
      have hf7 : (kWs : Kd K C _).rp S H7 (.ref p) g := (kWs : Kd K C _).same s7 hP
      have hw7 := (kT kI : Kd K C _).same s07 h_works
      have hr7 := (kI : Kd K C _).same s07 h_reader
      have fr7 := fr.same s07
      refine s_retN (K := K) (C := C) (S := S) (evn_lc fr7 (evi_enum (ev_var rfl hf7 Lf.refl)) (by rw [enum_len]; exact kL_len hf7) (fun y1 hy1 D1 v1 H1 l1 f1 hv1 => lcb_pair hv1 fun w10 w11 hw10 hw11 => ⟨rfl, evt_yes, fun ht1 => (ev_if (evt_test (ev_eqI (ev_var rfl hw10 Lf.refl) (ev_var rfl hr7 l1))) (fun hc => (ev_var rfl hw7 l1)) (fun hc => (ev_var rfl hw11 Lf.refl)))⟩)) fun p8 H8 n8 s8 r8 => qS _ ?_ p8 H8 (s07.free n8) (s07.trans s8) r8
      unfold goodWithB
      rw [if_neg hb3', hx]
      dsimp only
      rw [List.filter_eq_self.mpr (fun _ _ => rfl)]
    | inr m =>
      rw [hx] at hf6
      obtain ⟨t, wv, rfl, hT, hl⟩ := hf6
      refine ⟨t, _, rfl, hT, rfl, _, _, rfl, _, _, rfl, rfl, ?_⟩
      have hws' : (kS : Kd K C _).rp S H6 (.str "no") "no" := rfl
      try dsimp only
      refine q_if (evt_test (ev_eqS (ev_var (i := 9) rfl hws' Lf.refl) ev_str)) (fun H7 hc s7 => ?_) fun H7 hc s7 => absurd hc (by decide +kernel)
      exact s_ret (K := K) (C := C) (S := S) (k := kN) (x := ()) ev_non fun v H8 s8 r8 => by
        cases (show v = .non from r8)
        refine qN ?_ H8 (s0E.trans (s6.trans (s7.trans s8)))
        unfold goodWithB
        rw [if_neg hb3', hx]
end
end Ew
namespace Ew
open PySem PySem.Spec PyProof.Rows L2
section
variable {P : Program} {w : World} {K : PySem.W.Frag} {mg : Str → Option Value} {base : Heap} {C SB RE tb : Addr}
abbrev sLT : Stmt := (top 42)
def sp_least_tight (K : PySem.W.Frag) (C SB : Addr) : Sp := fun vs H Q E => ∃ S a, Fr C S H ∧ (aC kBk (aC (kT kI) (aC kI aN)) : Ka K C (Bk × List Int × Int × Unit)).rps S H vs a ∧
  (∀ f, extB a.1 (noRowsB a.1) a.2.1 = .inl f → ∀ x v H', LeastT a.1 a.2.1 a.2.2.1 x → Same H H' → (kO (kT (kI (K := K) (C := C)))).rp S H' v x → Q v H') ∧
  (∀ l, extB a.1 (noRowsB a.1) a.2.1 = .inr l → ∀ dx Hf wv, Same H Hf → H dx = none → Hf dx = some (.xd [(("works" : Str), wv)]) → (kT (kI (K := K) (C := C))).rp S Hf wv l → E (.ref SB) (some dx) Hf)
theorem scLT : FnScope ["book", "absent", "work", "nothing", "here", "around", "works", "tight"] ["book", "absent", "work"] (defScope sLT) := ⟨rfl, rfl, rfl, by decide +kernel, rfl, by decide +kernel, by decide +kernel⟩
set_option maxHeartbeats 0 in
theorem c_least_tight (D : DefAt K mg "least_tight" sLT ["book", "absent", "work"]) (B : Bi mg) (T : BkC P w K mg base C) (c_some_good_rows : CalX P w K mg base 8 "some_good_rows" (sp_some_good_rows K C SB)) (c_nobody_reads : C8.Cal P w K mg base 2 "nobody_reads" (sp_nobody_reads K C) []) (c_present_readers : C8.Cal P w K mg base 2 "present_readers" (sp_present_readers K C) []) (c_sets_of_works : C8.Cal P w K mg base 1 "sets_of_works" (sp_sets_of_works K C) []) (c_lack : C8.Cal P w K mg base 3 "lack" (sp_lack K C) []) : CalX P w K mg base 9 "least_tight" (sp_least_tight K C SB) := by
  refine calX_of D scLT (fun vs H Q E h => ?_) fun f fd F => ?_
  · obtain ⟨S, a, _, h, _⟩ := h
    rw [Ka.len _ h]
    rfl
  refine F.okX scLT (fun vs H Q E h => ?_) (fun cdv A outer s H vs Q E hr h => ?_)
  · obtain ⟨S, a, _, h, _⟩ := h
    rw [Ka.len _ h]
    rfl
  obtain ⟨S, ⟨b, as, z, _⟩, fr, h, qQ, qE⟩ := h
  obtain ⟨w_book, _, rfl, h_book, w_absent, _, rfl, h_absent, w_work, _, rfl, h_work, e⟩ := h
  cases (show _ = [] from e)
  have h_book : (kBk : Kd K C _).rp S H w_book b := h_book
  have h_absent : (kT kI : Kd K C _).rp S H w_absent as := h_absent
  have h_work : (kI : Kd K C _).rp S H w_work z := h_work
  have ok := kBk.ok h_book
  have n6 := ok.n6
  have n1 := ok.n1
  have r6 := ok.r6
  have hin : ∀ r ∈ presB b as, 0 ≤ r ∧ r < (b.rs.length : Int) := fun r hr => (presB_mem.mp hr).1
  have hrg : ∀ l ∈ (((allSets b.ds.length).filter fun l => decide (z ∈ l)).map fun l => l), ∀ y ∈ l, 0 ≤ y ∧ y < (b.ds.length : Int) := fun l hl => by
    rw [List.map_id'] at hl
    exact (allSets_mem.mp (List.mem_filter.mp hl).1).2.2
  refine ⟨_, (pss_cons (ps_expr (pe_cX c_some_good_rows hr (by decide) (by rfl) (passes_call (W := fun cls d _ H => E cls d H) (takes_of rfl rfl rfl rfl) (fun _ _ _ _ h => h)) (pa_cons (pv 0) (pa_cons (pv 1) pa_nil))))
 (pss_cons (ps_set (i := 3) scLT.nd rfl (.inr rfl) (C8.pe_c c_nobody_reads hr (by decide) (by rfl) (pa_cons (pv 0) pa_nil)))
 (pss_cons (ps_set (i := 4) scLT.nd rfl (.inr rfl) (C8.pe_c c_present_readers hr (by decide) (by rfl) (pa_cons (pv 0) (pa_cons (pv 1) pa_nil))))
 (pss_cons (ps_setLc (i := 5) (own := [("works", 6)]) (g := (gName 6)) (tt := (tTest (tOp (rIn K false) (tVar 2) (tVar 6)))) (te := (tVar 6)) (by rfl) scLT.nd rfl rfl (sw_true rfl rfl rfl (by decide +kernel)) (pi_list (C8.pe_c c_sets_of_works hr (by decide) (by rfl) (pa_cons (pe_callB (call_lenBk T hr (by decide)) (by rfl) B.len PySem.boot_len (pa_cons (pv 0) pa_nil)) pa_nil))) (blkOk_by (own := [("works", 6)]) (N := ["book", "absent", "work", "nothing", "here", "around", "works", "tight"]) (sc := defScope sLT) (by decide +kernel)) (fun _ _ _ _ _ => (pg_name (i := 6) scLT.nd rfl (.inl rfl))) (fun _ _ _ _ _ => pts_one (pt_cmpR op_in_seq (pv 2) (pv 6) (by rfl))) (fun _ _ _ _ _ => (pv 6)))
 (pss_cons (ps_setLc (i := 7) (own := [("works", 6)]) (g := (gName 6)) (tt := (tTest (tOp rEq (tCall (sp_lack K C) [] C8.E0 (tCons (tVar 0) (tCons (tVar 3) (tCons (tVar 4) (tCons (tVar 6) tNil))))) (tC (.int 0))))) (te := (tVar 6)) (by rfl) scLT.nd rfl rfl (sw_true rfl rfl rfl (by decide +kernel)) (pi_list (pv 5)) (blkOk_by (own := [("works", 6)]) (N := ["book", "absent", "work", "nothing", "here", "around", "works", "tight"]) (sc := defScope sLT) (by decide +kernel)) (fun _ _ _ _ _ => (pg_name (i := 6) scLT.nd rfl (.inl rfl))) (fun _ _ _ _ _ => pts_one (pt_cmpR op_eq (C8.pe_c c_lack hr (by decide) (by rfl) (pa_cons (pv 0) (pa_cons (pv 3) (pa_cons (pv 4) (pa_cons (pv 6) pa_nil))))) pe_int (nomark _))) (fun _ _ _ _ _ => (pv 6)))
 (pss_one (ps_ret (pe_minLen (by rfl) (pv 7) (by rfl) B.min (by rfl) B.len pe_non)))))))), ?_⟩
  try dsimp only [cxOf, Cx.nox, Cx.wish]
  refine q_exprX (K := K) (C := C) (S := S) (ka := aC kBk (aC (kT kI) aN)) (eva_cons (ev_var (i := 0) rfl h_book Lf.refl) (eva_cons (ev_var (i := 1) rfl h_absent Lf.refl) eva_nil)) fun vs1 H0 s0 rv1 => ?_
  rw [List.append_nil]
  refine ⟨S, _, fr.same s0, rv1, fun f0 hf0 pb H1 npb s1 hb2 => ?_, fun l hl dx Hf wv sf nx h1 h2 => qE l hl dx Hf wv (s0.trans sf) (s0.free nx) h1 h2⟩
  have hf0 : extB b (noRowsB b) as = .inl f0 := hf0
  have qQ := qQ f0 hf0
  have s01 := s0.trans s1
  refine q_setN (S := S) (evn_call (eva_cons (ev_var (i := 0) rfl h_book (Lf.same s01)) eva_nil) (fr.same s01) (by first | trivial | exact ⟨n1, n6⟩ | (dsimp only; omega))) fun p2 H2 n2 s2 h_nothing => ?_
  have h_nothing : (kWs : Kd K C _).rp S H2 (.ref p2) (noRowsB b) := h_nothing
  refine q_setN (S := S) (evn_call (eva_cons (ev_var (i := 0) rfl h_book (Lf.trans (Lf.same s01) (Lf.same s2))) (eva_cons (ev_var (i := 1) rfl h_absent (Lf.trans (Lf.same s01) (Lf.same s2))) eva_nil)) ((fr.same s01).same s2) (by first | trivial | exact ⟨n1, n6⟩ | (dsimp only; omega))) fun p3 H3 n3 s3 h_here => ?_
  have h_here : (kL kI : Kd K C _).rp S H3 (.ref p3) (presB b as) := h_here
  refine q_setN (S := S) (evn_lc (((fr.same s01).same s2).same s3) (evi_list (EvN.ev (evn_call (eva_cons (ev_lenBk (ev_var (i := 0) rfl h_book (Lf.trans (Lf.same s01) (Lf.trans (Lf.same s2) (Lf.same s3))))) eva_nil) (((fr.same s01).same s2).same s3) (by first | trivial | exact ⟨n1, n6⟩ | (dsimp only; omega))))) (by first | omega | exact Nat.le_trans (allSets_len n6) (by decide)) (fun y1 hy1 D1 v1 H1 l1 f1 hv1 => lcb_name rfl (evt_test (ev_in (ev_var (i := 2) rfl h_work (Lf.trans (Lf.same s01) (Lf.trans (Lf.same s2) (Lf.trans (Lf.same s3) l1)))) (ev_var rfl hv1 Lf.refl) IsSq.t)) (fun ht1 => (ev_var rfl hv1 Lf.refl)))) fun p4 H4 n4 s4 h_around => ?_
  have h_around : (kL (kT kI) : Kd K C _).rp S H4 (.ref p4) (((allSets b.ds.length).filter fun l => decide (z ∈ l)).map fun l => l) := h_around
  refine q_setN (S := S) (evn_lc ((((fr.same s01).same s2).same s3).same s4) (evi_list (ev_var (i := 5) rfl h_around Lf.refl)) (kL_len h_around) (fun y1 hy1 D1 v1 H1 l1 f1 hv1 => lcb_name rfl (evt_test (ev_eqI (ev_call (eva_cons (ev_var (i := 0) rfl h_book (Lf.trans (Lf.same s01) (Lf.trans (Lf.same s2) (Lf.trans (Lf.same s3) (Lf.trans (Lf.same s4) l1))))) (eva_cons (ev_var (i := 3) rfl h_nothing (Lf.trans (Lf.same s3) (Lf.trans (Lf.same s4) l1))) (eva_cons (ev_var (i := 4) rfl h_here (Lf.trans (Lf.same s4) l1)) (eva_cons (ev_var rfl hv1 Lf.refl) eva_nil)))) f1 ⟨hin, by unfold noRowsB; simp, hrg _ hy1⟩) ev_int)) (fun ht1 => (ev_var rfl hv1 Lf.refl)))) fun p5 H5 n5 s5 h_tight => ?_
  have h_tight : (kL (kT kI) : Kd K C _).rp S H5 (.ref p5) (((((allSets b.ds.length).filter fun l => decide (z ∈ l)).map fun l => l).filter fun l => decide (lackB b as l = 0)).map fun l => l) := h_tight
  rw [List.map_id', List.map_id'] at h_tight
  have h_tight : (kL (kT kI) : Kd K C _).rp S H5 (.ref p5) (leastL b as z) := h_tight
  have s05 := s01.trans (s2.trans (s3.trans (s4.trans s5)))
  refine q_retX (K := K) (t_minLen (K := K) (C := C) (S := S) (ev_var (i := 7) rfl h_tight Lf.refl) (fun e H6 s6 => qQ none _ H6 e (s05.trans s6) rfl) fun x hx hm v H6 s6 r => qQ (some x) v H6 ⟨hx, hm⟩ (s05.trans s6) r)
end
end Ew
namespace Ew
open PySem PySem.Spec PyProof.Rows L2
/-- the law, with the table of the one lambda -/
def spLawT (K : PySem.W.Frag) (tb : Addr) : Sp := fun vs H Q _ => ∃ (a : Addr) (ns : List Int), vs = [.ref a] ∧ TabQ H tb qLam ∧ SqL K H a (ns.map V.int) ∧ ns.length ≤ 63 ∧ ∀ H', Q (.bl true) H'
section
variable {K : PySem.W.Frag} {C SB tb : Addr} {α : Type} {k : Kd K C α} {S : List Addr} {H : Hp} {σ : L2.St} {ta te : TE} {b : Bk} {as : List Int} {r z : Int} {f0 : List (List Int)}
theorem ev_pair {t : TA} (hx : extB b (noRowsB b) as = .inl f0) (ha : EvA (aC kBk (aC (kT kI) (aC kI (aC kI aN))) : Ka K C (Bk × List Int × Int × Int × Unit)) S H t σ (b, as, r, z, ())) (fr : Fr C S H) (hp : (0 ≤ r ∧ r < (b.rs.length : Int)) ∧ 0 ≤ z ∧ z < (b.ds.length : Int)) :
    Ev (kP (kB (K := K) (C := C)) kB) S H (tCall (sp_pair K C SB) [] (fun _ _ _ => False) t) σ (canReadB b as r z, canLeaveB b as r z) := fun H1 s Q q => ha H1 s _ fun vs H2 s2 rv => by
  show sp_pair K C SB (vs ++ []) H2 _ _
  rw [List.append_nil]
  refine ⟨S, _, fr.same (s.trans s2), rv, hp, fun f hf v H3 s3 r3 => q v H3 (s2.trans s3) r3, fun l hl => ?_⟩
  have hl : extB b (noRowsB b) as = .inr l := hl
  rw [hx] at hl
  cases hl
theorem ev_reads {t : TA} (hT : TabQ H tb qLam) (hx : extB b (noRowsB b) as = .inl f0) (ha : EvA (aC kBk (aC (kT kI) (aC kI aN)) : Ka K C (Bk × List Int × Int × Unit)) S H t σ (b, as, r, ())) (fr : Fr C S H) (hp : 0 ≤ r ∧ r < (b.rs.length : Int)) :
    Ev (kP (kI (K := K) (C := C)) kI) S H (tCall (sp_readings K C SB tb) [] (fun _ _ _ => False) t) σ (readGB b as r) := fun H1 s Q q => ha H1 s _ fun vs H2 s2 rv => by
  show sp_readings K C SB tb (vs ++ []) H2 _ _
  rw [List.append_nil]
  refine ⟨S, _, fr.same (s.trans s2), (s.trans s2).tab _ _ hT, rv, hp, fun f hf v H3 s3 r3 => q v H3 (s2.trans s3) r3, fun l hl => ?_⟩
  have hl : extB b (noRowsB b) as = .inr l := hl
  rw [hx] at hl
  cases hl
theorem ev_reprBB {x : Bool × Bool} (hx : Ev (kP (kB (K := K) (C := C)) kB) S H ta σ x) : Ev (K := K) (C := C) kS S H (tCB (rRepr K) (tCons ta tNil)) σ (PyData.shown (.tuple [.bool x.1, .bool x.2])) := fun H1 s Q q => by
  refine hx H1 s _ fun v H2 s2 r2 => ?_
  obtain ⟨t, v1, v2, rfl, hT, h1, h2⟩ := r2
  cases (show v1 = .bl x.1 from h1)
  cases (show v2 = .bl x.2 from h2)
  obtain ⟨x1, x2⟩ := x
  have dp : Dp K H2 (.ref t) (.tuple [.bool x1, .bool x2]) := .tup hT (.cons (.bl _) (.cons (.bl _) .nil))
  exact ⟨_, _, rfl, dp, by cases x1 <;> cases x2 <;> rfl, by cases x1 <;> cases x2 <;> decide +kernel, Nat.le_trans (show _ ≤ 100 by cases x1 <;> cases x2 <;> decide +kernel) (szL (by decide)), q _ _ s2 rfl⟩
theorem ev_reprII {x : Int × Int} (hx : Ev (kP (kI (K := K) (C := C)) kI) S H ta σ x) (b1 : Dig x.1) (b2 : Dig x.2) : Ev (K := K) (C := C) kS S H (tCB (rRepr K) (tCons ta tNil)) σ (PyData.shown (dT [x.1, x.2])) := fun H1 s Q q => by
  refine hx H1 s _ fun v H2 s2 r2 => ?_
  obtain ⟨t, v1, v2, rfl, hT, h1, h2⟩ := r2
  cases (show v1 = .int x.1 from h1)
  cases (show v2 = .int x.2 from h2)
  have sh := show_dT (w := [x.1, x.2]) (fun z hz => by
    simp at hz
    rcases hz with rfl | rfl
    · exact b1
    · exact b2)
  have dp : Dp K H2 (.ref t) (dT [x.1, x.2]) := .tup hT (.cons (.int _) (.cons (.int _) .nil))
  exact ⟨_, _, rfl, dp, sh.1, Nat.le_trans (Nat.succ_le_succ (depAll_map PyData.int (n := 0) (fun _ => Nat.le_refl _) [x.1, x.2])) (by decide), Nat.le_trans sh.2 (szL (by simp)), q _ _ s2 rfl⟩
theorem good_some (h : areGood b as = true) : ∃ f0, extB b (noRowsB b) as = .inl f0 := by
  unfold areGood at h
  cases e : extB b (noRowsB b) as with
  | inl g => exact ⟨g, rfl⟩
  | inr l => rw [e] at h; cases h
/-- .. of books that are written out -/
theorem ev_pairD {t : TA} (ha : EvA (aC kBk (aC (kT kI) (aC kI (aC kI aN))) : Ka K C (Bk × List Int × Int × Int × Unit)) S H t σ (b, as, r, z, ())) (fr : Fr C S H) (h : areGood b as = true ∧ (0 ≤ r ∧ r < (b.rs.length : Int)) ∧ 0 ≤ z ∧ z < (b.ds.length : Int)) :
    Ev (kP (kB (K := K) (C := C)) kB) S H (tCall (sp_pair K C SB) [] (fun _ _ _ => False) t) σ (canReadB b as r z, canLeaveB b as r z) := let ⟨_, e⟩ := good_some h.1; ev_pair e ha fr h.2
theorem ev_readsD {t : TA} (hT : TabQ H tb qLam) (ha : EvA (aC kBk (aC (kT kI) (aC kI aN)) : Ka K C (Bk × List Int × Int × Unit)) S H t σ (b, as, r, ())) (fr : Fr C S H) (h : areGood b as = true ∧ 0 ≤ r ∧ r < (b.rs.length : Int)) :
    Ev (kP (kI (K := K) (C := C)) kI) S H (tCall (sp_readings K C SB tb) [] (fun _ _ _ => False) t) σ (readGB b as r) := let ⟨_, e⟩ := good_some h.1; ev_reads hT e ha fr h.2
theorem ev_gwithD {l : List Int} {t : TA} (ha : EvA (aC kBk (aC (kT kI) (aC kI (aC (kT kI) aN))) : Ka K C (Bk × List Int × Int × List Int × Unit)) S H t σ (b, as, r, l, ())) (fr : Fr C S H) (hp : (0 ≤ r ∧ r < (b.rs.length : Int)) ∧ l.length ≤ 1000000 ∧ ∀ z ∈ l, 0 ≤ z ∧ z < (b.ds.length : Int)) :
    Ev (kO (kWs (K := K) (C := C))) S H (tCall (sp_good_with K C) [] C8.E0 t) σ (goodWithB b as r l) := fun H1 s Q q => ha H1 s _ fun vs H2 s2 rv => by
  show sp_good_with K C (vs ++ []) H2 _ _
  rw [List.append_nil]
  refine ⟨S, _, fr.same (s.trans s2), rv, hp, fun e H3 s3 => q .non H3 (s2.trans s3) ?_, fun g e p H3 n s3 r3 => q _ H3 (s2.trans s3) ?_⟩
  · have e : goodWithB b as r l = none := e
    rw [e]
    exact rfl
  · have e : goodWithB b as r l = some g := e
    rw [e]
    exact r3
/-- the one least tight set -/
def leastIs (b : Bk) (as : List Int) (z : Int) : Option (List Int) → Bool
  | none => (leastL b as z).isEmpty
  | some l => decide (l ∈ leastL b as z) && (leastL b as z).all fun m => decide (m = l) || decide (l.length < m.length)
theorem least_is {o x : Option (List Int)} (h : leastIs b as z o = true) (hx : LeastT b as z x) : x = o := by
  cases o with
  | none =>
    have h : (leastL b as z).isEmpty = true := h
    rw [List.isEmpty_iff] at h
    cases x with
    | none => rfl
    | some l =>
      have h2 : l ∈ leastL b as z := hx.1
      rw [h] at h2
      cases h2
  | some l =>
    have h : (decide (l ∈ leastL b as z) && (leastL b as z).all fun m => decide (m = l) || decide (l.length < m.length)) = true := h
    rw [Bool.and_eq_true, decide_eq_true_eq, List.all_eq_true] at h
    cases x with
    | none => rw [show leastL b as z = [] from hx] at h; exact nomatch h.1
    | some m =>
      have h1 := h.2 m hx.1
      have h2 := hx.2 l h.1
      simp at h1
      rcases h1 with rfl | h1
      · rfl
      · omega
theorem ev_leastD {o : Option (List Int)} {t : TA} (ha : EvA (aC kBk (aC (kT kI) (aC kI aN)) : Ka K C (Bk × List Int × Int × Unit)) S H t σ (b, as, z, ())) (fr : Fr C S H) (h : areGood b as = true ∧ leastIs b as z o = true) :
    Ev (kO (kT (kI (K := K) (C := C)))) S H (tCall (sp_least_tight K C SB) [] (fun _ _ _ => False) t) σ o := fun H1 s Q q => ha H1 s _ fun vs H2 s2 rv => by
  obtain ⟨f0, hf0⟩ := good_some h.1
  show sp_least_tight K C SB (vs ++ []) H2 _ _
  rw [List.append_nil]
  refine ⟨S, _, fr.same (s.trans s2), rv, fun f hf x v H3 hx s3 r3 => q v H3 (s2.trans s3) ?_, fun l hl => ?_⟩
  · rw [← least_is h.2 hx]
    exact r3
  · have hl : extB b (noRowsB b) as = .inr l := hl
    rw [hf0] at hl
    cases hl
end
section
variable {K : PySem.W.Frag} {C : Addr} {α : Type} {k : Kd K C α} {n : Nat}
def pO [DecidableEq α] (p : KPy k n) (h0 : ∀ x, PyData.eqv .none (p.py x) = false) (h1 : ∀ x, PyData.eqv (p.py x) .none = false) : KPy (kO k) n := ⟨fun x => match x with
  | none => .none
  | some y => p.py y, fun {S H v x} h => by
  cases x with
  | none => cases (show v = .non from h); exact .non
  | some y => exact p.dp h, fun x => by
  cases x with
  | none => rfl
  | some y => exact p.lay y, fun x => by
  cases x with
  | none => exact Nat.zero_le _
  | some y => exact p.dep y, fun x y => by
  cases x with
  | none =>
    cases y with
    | none => rfl
    | some y => rw [h0 y]; rfl
  | some x =>
    cases y with
    | none => rw [h1 x]; rfl
    | some y =>
      rw [p.eqv]
      exact decide_eq_decide.mpr ⟨fun h => by rw [h], fun h => Option.some.inj h⟩⟩
abbrev pOT : KPy (kO (kT (kI (K := K) (C := C)))) 1 := pO (pT pI) (fun _ => rfl) (fun _ => rfl)
abbrev pOWs : KPy (kO (kWs (K := K) (C := C))) 2 := pO (pL (pT pI)) (fun _ => rfl) (fun _ => rfl)
def dO : Option (List Int) → PyData
  | none => .none
  | some l => dT l
theorem ev_reprO {S : List Addr} {H : Hp} {σ : L2.St} {ta : TE} {x : Option (List Int)} (hx : Ev (K := K) (C := C) (kO (kT kI)) S H ta σ x) (lx : ∀ l, x = some l → l.length ≤ 6 ∧ ∀ z ∈ l, Dig z) :
    Ev (K := K) (C := C) kS S H (tCB (rRepr K) (tCons ta tNil)) σ (PyData.shown (dO x)) := by
  cases x with
  | none =>
    intro H1 s Q q
    refine hx H1 s _ fun v H2 s2 r2 => ?_
    cases (show v = .non from r2)
    exact ⟨_, .none, rfl, .non, rfl, by decide, Nat.le_trans (show _ ≤ 100 by decide +kernel) (szL (by decide)), q _ _ s2 rfl⟩
  | some l => exact ev_reprT (fun H1 s Q q => hx H1 s Q q) (lx l rfl).1 (lx l rfl).2
end
section
variable {K : PySem.W.Frag} {C : Addr} {S : List Addr} {H : Hp} {σ : L2.St} {te : TE} {D : Ends} {i : Nat} {p : Addr}
theorem s_app {l : List Bool} {b : Bool} (e : σ[i]? = some (some (.ref p))) (hp : H p = some (.lst (l.map V.bl))) (m : p ∈ S) (fr : Fr C S H) (h : Ev (K := K) (C := C) kB S H te σ b) (hl : l.length ≤ 1000) (q : ∀ H2, Fr C S H2 → Lf K C S H S H2 → (∀ H0, Same H0 H → H0 p = none → Same H0 H2) → H2 p = some (.lst ((l ++ [b]).map V.bl)) → D.nx σ H2) :
    tDrop (tBM K "list" rAppend (tVar i) (tCons te tNil)) D σ H := q_app (u := fun D => D.nx) e hp m fr h hl q
end
end Ew
namespace Ew
open PySem PySem.Spec PyProof.Rows L2
/-! ### xs[a:c] = ys, c perhaps behind the end -/
theorem bnd {a c n : Nat} (h : a ≤ c) (h2 : a ≤ n) : sliceBounds (some (a : Int)) (some (c : Int)) none n = ((a : Int), ((min c n : Nat) : Int), 1) := by
  have ea : max 0 (min (if (a : Int) < 0 then (a : Int) + n else a) (n : Int)) = (a : Int) := by
    rw [if_neg (by omega)]; omega
  have ec : max 0 (min (if (c : Int) < 0 then (c : Int) + n else c) (n : Int)) = ((min c n : Nat) : Int) := by
    rw [if_neg (by omega)]; omega
  show (max 0 (min (if (a : Int) < 0 then (a : Int) + n else a) (n : Int)), max 0 (min (if (c : Int) < 0 then (c : Int) + n else c) (n : Int)), (1 : Int)) = _
  rw [ea, ec]
section
variable {prog : Program} {w : World} {A : Around} {E : Value → Shared → Prop} {s : Shared}
theorem setItem_sliceC {l b sl : Addr} {items new : Array Value} {n n2 : Nat} {vl vu : Value} {a c : Nat} {Q : Unit → Shared → Prop} (e : s.heap.get? l = some { cls := .type "list", data := .seq items n }) (e2 : s.heap.get? b = some { cls := .type "list", data := .seq new n2 }) (hne : l ≠ b)
    (hs : s.heap.IsSliceOf sl vl vu .none) (pl : IsPart vl (some (a : Int))) (pu : IsPart vu (some (c : Int))) (hac : a ≤ c) (ha : a ≤ items.size) (hsz : items.size + new.size ≤ sizeLine)
    (h : Q () { s with heap := s.heap.update l (Obj.mapSeq fun xs => xs.extract 0 a ++ new ++ xs.extract (min c items.size)) }) : wpAny (model prog w) A (setItem (.ref l) (.ref sl) (.ref b)) Q E s := by
  have hl : s.heap.IsList l items := ⟨_, e, rfl, _, rfl⟩
  obtain ⟨os, hos, hcs, hds⟩ := id hs
  have hTs : s.TypeIs (.ref sl) "slice" := ⟨os, hos, hcs⟩
  have hTb : s.TypeIs (.ref b) "list" := ⟨_, e2, rfl⟩
  unfold setItem
  refine wpAny_holding (wpAny_bind (wpAny_sequenceKey hl.typeIs (by decide) (wpAny_bind (wpAny_callSpecial?_slot hl.typeIs slot_list_setitem (wpAny_call_entry slot_list_setitem hl.typeIs entry_list_setitem ?_ (F.args_list_setitem_3 _ _ _))))))
  show wpAny _ _ (Builtin.«list.__setitem__» ⟨[.ref l, .ref sl, .ref b], []⟩) _ _ _
  unfold Builtin.«list.__setitem__»
  refine wpAny_bind (m := Builtin.List.listBlankSlotArgs "__setitem__" 2 ⟨[.ref l, .ref sl, .ref b], []⟩) (wpAny_pure ?_)
  refine wpAny_bind (m := Builtin.List.listSubscript? (.ref sl)) ?_
  unfold Builtin.List.listSubscript?
  refine wpAny_bind (wpAny_specialOf hTs slice_no_index ?_)
  rw [if_pos (by rfl)]
  refine wpAny_pure ?_
  dsimp only
  refine wpAny_bind (wpAny_typeOf hTs ?_)
  rw [if_neg (by decide)]
  refine wpAny_bind (m := Builtin.List.listSliceParts (.ref sl)) ?_
  unfold Builtin.List.listSliceParts
  refine wpAny_bind (wpAny_field hos hds rfl ?_)
  refine wpAny_bind (m := listPart .none) (wpAny_listPart .none ?_)
  rw [if_neg (by decide)]
  refine wpAny_bind (wpAny_field hos hds rfl (wpAny_bind (m := listPart vl) (wpAny_listPart pl (wpAny_bind (wpAny_field hos hds rfl (wpAny_bind (m := listPart vu) (wpAny_listPart pu (wpAny_pure ?_))))))))
  dsimp only
  rw [if_neg (by show ¬ (Builtin.List.listSameRef (.ref l) (.ref b)) = true; unfold Builtin.List.listSameRef; simpa using hne)]
  refine wpAny_bind (m := Builtin.List.listAllItems (.ref b) _) ?_
  unfold Builtin.List.listAllItems
  refine wpAny_bind (wpAny_typeOf hTb ?_)
  rw [if_pos (by decide)]
  unfold Builtin.List.listItems
  refine wpAny_bind (wpAny_seqItems e2 rfl (wpAny_pure ?_))
  refine wpAny_bind (m := do let __do_lift ← seqItems? (.ref l); match __do_lift with | some xs => pure xs | none => unsupported "internal:list-without-items") (wpAny_bind (wpAny_seqItems e rfl (wpAny_pure ?_)))
  refine wpAny_bind (wpAny_of_eq (sliceIndices_raw (some (a : Int)) (some (c : Int)) none items.size (by decide)) ?_)
  rw [bnd hac ha]
  dsimp only
  rw [if_pos (by decide)]
  refine wpAny_bind (wpAny_rule ?_)
  rw [if_neg (by unfold Builtin.List.listTooLong; simp; exact hsz)]
  refine wpAny_bind (m := Builtin.List.listUpdate (.ref l) _) ?_
  show wpAny _ _ (updateSeq l _) _ _ _
  refine wpAny_updateSeq e rfl ?_ (by omega) ?_
  · refine wpAny_bind (wpAny_letGo (wpAny_pure ⟨_, rfl, wpAny_pure ?_⟩))
    rw [show (max (a : Int) ((min c items.size : Nat) : Int)).toNat = min c items.size from by omega, Int.toNat_natCast]
    exact h
  · simp only [Array.size_append, Array.size_extract]
    omega
end
theorem drop_min {α : Type} (xs : List α) (c : Nat) : xs.drop (min c xs.length) = xs.drop c := by
  rcases Nat.le_total c xs.length with h | h
  · rw [Nat.min_eq_left h]
  · rw [Nat.min_eq_right h, List.drop_of_length_le (Nat.le_refl _), List.drop_of_length_le h]
def gSlcC (to : TE) (tl th : TO) : TG := fun v σ H Q => to σ H fun x H1 => tl σ H1 fun lo H2 => th σ H2 fun hi H3 => ∃ (a b : Addr) (xs ys : List V) (i c : Nat), x = .ref a ∧ v = .ref b ∧ lo = some (i : Int) ∧ hi = some (c : Int) ∧ H3 a = some (.lst xs) ∧ H3 b = some (.lst ys) ∧ a ≠ b ∧ i ≤ c ∧ i ≤ xs.length ∧ xs.length + ys.length ≤ sizeLine ∧ Q σ (upd H3 a (.lst (xs.take i ++ ys ++ xs.drop c)))
section
variable {X : Cx} {o : Expr} {to : TE} {lo hi : Option Expr} {tl th : TO} {pos p2 : Pos}
theorem pg_slcC (ho : PE X o to) (hl : PO X lo tl) (hh : PO X hi th)
    (ha : ∀ v : Value, assign (o.Subscript (.Slice lo hi none p2) pos) X.env v = (do
      let ov ← holding [v] (eval o X.env)
      let iv ← holding [v, ov] (eval (.Slice lo hi none p2) X.env)
      standAt pos
      holding [v, ov, iv] (setItem ov iv v)
      release [iv, v, ov] []) := by intro _; rfl) : PG X (o.Subscript (.Slice lo hi none p2) pos) (gSlcC to tl th) := by
  refine ⟨fun pins s σ H v u Q I r h => ?_⟩
  rw [ha u]
  refine wpAny_bind (wpAny_holding (thn (ho.run pins s σ H _ I h) fun ov s1 ⟨x, H1, I1, r1, q1⟩ => wpAny_bind (wpAny_holding (wpAny_Slice (thn (hl.run pins s1 σ H1 _ I1 q1) fun vl s2 ⟨l, H2, I2, pl, q2⟩ => thn (hh.run pins s2 σ H2 _ I2 q2) fun vu s3 ⟨z, H3, I3, pu, q3⟩ => ?_)))))
  rw [evalPart_none X.env]
  refine wpAny_pure (wpAny_bind (wpAny_standAt (wpAny_bind (wpAny_holding ?_))))
  obtain ⟨a, b, xs, ys, i, c, rfl, rfl, rfl, rfl, hA, hB, nab, ic, cl, hz, q⟩ := q3
  cases (show ov = Value.ref a from r1)
  cases (show u = Value.ref b from r)
  have I4 := I3.kept (t' := s3.toks) (h' := s3.heap.push { cls := .type "slice", data := .fields #[vl, vu, .none] }) fun b ob q => Heap.get?_push_of_some _ q
  obtain ⟨_, its, n, va, la, ea⟩ := I4.lstM hA
  obtain ⟨_, its2, n2, vb, lb, eb⟩ := I4.lstM hB
  refine setItem_sliceC ea eb nab (Heap.IsSliceOf.new s3.heap _ _ _) pl pu ic (by rw [List.size_toArray, ← la]; exact cl) (by rw [List.size_toArray, List.size_toArray, ← la, ← lb]; exact hz) (wpAny_release ?_)
  refine ⟨σ, _, I4.lset (its' := its.take i ++ its2 ++ its.drop c) (ys := xs.take i ++ ys ++ xs.drop c) (t' := s3.toks) hA ea ?_ (Vals.append (Vals.append (Vals.take i va) vb) (Vals.drop c va)) ?_, q⟩
  · rw [splice_eq, List.size_toArray, drop_min]
  · rw [List.length_append, List.length_append, List.length_take, List.length_drop]
    omega
end
end Ew
namespace Ew
open PySem PySem.Spec PyProof.Rows L2
/-! ### C(.., k = v): an own exception made with keywords, or none at all -/
section
open PySem.Builtin PySem.Builtin.ObjectAttr PySem.HandSPX
variable {prog : Program} {w : World} {A : Around} {M : Model} {E : Value → Shared → Prop} {R : PySem.Result → Shared → Prop} {hp : Heap} {gs : Array GenState} {dr : Drawn} {tk : Nat} {os : OsState}
variable {nm q : Str} {C N : Addr} {bs bm bmB : List Value} {hd : Bool} {sn : List Str} {sub : List Value} {ab : Bool} {col : Option Bool} {dd : Option Addr} {k0 k1 k2 k3 k5 : Option Value} {B nw it : String} {us : List Value} {kw : List (Str × Value)}
theorem checkK (F : ExcBaseFacts B nw it bmB) (hT : ∀ X : String, bm.contains (.type X) = bmB.contains (.type X)) {Q : Unit → Shared → Prop}
    (hC : hp.get? C = some (excClassObj nm q C N bs bm hd sn sub ab col dd k0 k1 k2 k3 k5 nw)) (z : Q () ⟨hp, gs, dr, tk, os⟩) : wpAny M A (checkBuiltinCall nw ⟨.ref C :: us, kw⟩) Q E ⟨hp, gs, dr, tk, os⟩ := by
  have c1 : (Value.ref C :: bm).contains (.type B) = true := by
    rw [List.contains_cons, hT, F.hasB]
    exact Bool.or_true _
  have c2 := F.noStar
  simp only [checkBuiltinCall, F.newRow, F.newKind, F.newSplit]
  repeat (first
    | refine wpAny_loadPart_at hC ?_
    | (refine wpAny_isSubtype_exc hC ?_; rw [c1])
    | refine wpAny_staticBase_exc hC ?_
    | refine wpAny_madeBy_exc hC ?_
    | simp only [bne_self_eq_false, Bool.false_eq_true, if_false]
    | wp_step)
  exact z
theorem newK (F : ExcBaseFacts B nw it bmB) (hT : ∀ X : String, bm.contains (.type X) = bmB.contains (.type X)) (hC : hp.get? C = some (excClassObj nm q C N bs bm hd sn sub ab col dd k0 k1 k2 k3 k5 nw)) (hz : us.length ≤ sizeLine)
    (z : R (.ok (.ret (.ref (hp.objs.size + 1)))) ⟨(hp.push (PySem.W.kdv_tup us)).push (excO C hp.objs.size), gs, dr, tk, os⟩) :
    codeAny (model prog w) A (.builtin nw ⟨.ref C :: us, kw⟩) R ⟨hp, gs, dr, tk, os⟩ := by
  have c0 := F.ends
  have c1 : (Value.ref C :: bm).contains (.type B) = true := by
    rw [List.contains_cons, hT, F.hasB]
    exact Bool.or_true _
  have c2 : (Value.ref C :: bm).contains (.type "AttributeError") = false := by
    rw [List.contains_cons, hT, F.noAttr]
    rfl
  have c3 : (Value.ref C :: bm).contains (.type "NameError") = false := by
    rw [List.contains_cons, hT, F.noName]
    rfl
  refine codeAny_builtinAt F.entry ?_
  unfold Builtin.«BaseException.__new__»
  refine PySem.wpAt_bind ?_
  show PySem.wpAt _ _ _ (PySem.stack >>= _) _ _ _
  refine PySem.wpAt_bind (PySem.wpAt_stack fun p below => PySem.wpAt_of_wpAny ?_)
  wp_walk
  refine PySem.wpAt_of_wpAny ?_
  rw [F.owner]
  repeat (first
    | with_reducible refine wpAny_madeHere_exc F.canon hC ?_
    | with_reducible refine wpAny_loadPart_at hC ?_
    | (with_reducible refine wpAny_isSubtype_exc hC ?_; first | rw [c1] | rw [c2] | rw [c3])
    | wp_step)
  show R _ _
  rw [Heap.size_push]
  exact z
theorem typeCallK (F : ExcBaseFacts B nw it bmB) (hT : ∀ X : String, bm.contains (.type X) = bmB.contains (.type X)) {fI : Addr} {Q : Fin → Shared → Prop} (hC : hp.get? C = some (excClassObj nm q C N bs bm hd sn sub ab col dd k0 k1 k2 k3 k5 nw)) (hz : us.length ≤ sizeLine)
    (hi : PySem.W.Looks (model prog w) hp (typeLookup (.ref C) "__init__") (some (.ref fI))) (hb : ∀ self, PySem.W.Looks (model prog w) hp (bindSpecial (.ref fI) self) (.ref fI, [self]))
    (z : codeAny (model prog w) A (.call (.ref fI) ⟨.ref (hp.objs.size + 1) :: us, kw⟩) (fun r s' => match r with
        | .ok (.ret v) => v = .none ∧ Q (.done (.ret (.ref (hp.objs.size + 1)))) s'
        | .ok _ => False
        | .error e => E e s') ⟨(hp.push (PySem.W.kdv_tup us)).push (excO C hp.objs.size), gs, dr, tk, os⟩) :
    wpAny (model prog w) A (Builtin.«type.__call__» ⟨.ref C :: us, kw⟩) Q E ⟨hp, gs, dr, tk, os⟩ := by
  repeat (first
    | with_reducible refine wpAny_loadPart_at hC ?_
    | with_reducible refine wpAny_madeBy_exc hC ?_
    | wp_step)
  refine codeAny_call_builtin_code (Code.quiet_builtin _ F.quiet) (checkK F hT hC ?_)
  refine newK F hT hC hz ?_
  show wpAny _ _ _ _ _ _
  have old : ∀ b o, hp.get? b = some o → ((hp.push (PySem.W.kdv_tup us)).push (excO C hp.objs.size)).get? b = some o := fun b o e => Heap.get?_push_of_some _ (Heap.get?_push_of_some _ e)
  have hC1 := old _ _ hC
  have hnew : ((hp.push (PySem.W.kdv_tup us)).push (excO C hp.objs.size)).get? (hp.objs.size + 1) = some (excO C hp.objs.size) := by heap_get
  have cC : (Value.ref C :: bm).contains (.ref C) = true := by simp
  have li := hi.keeps old
  have lb := (hb (.ref (hp.objs.size + 1))).keeps old
  unfold isInstance
  repeat (first
    | with_reducible refine wpAny_loadPart_at hnew ?_
    | (with_reducible refine wpAny_isSubtype_exc hC1 ?_; rw [cC])
    | wp_step)
  show wpAny _ _ (typeLookup (.ref C) _) _ _ _
  refine li.at ?_
  refine wpAny_holding (wpAny_bind (lb.at ?_))
  refine wpAny_bind (wpAny_call (codeAny_mono z fun r s' y => ?_))
  rcases r with e | (v | _ | _ | _) <;> first | exact y | exact y.elim | skip
  obtain ⟨rfl, y⟩ := y
  first
    | exact wpAny_pure (wpAny_pure y)
    | (wp_walk; exact y)
theorem checkT {Q : Unit → Shared → Prop} (hC : hp.get? C = some (excClassObj nm q C N bs bm hd sn sub ab col dd k0 k1 k2 k3 k5 nw)) (z : Q () ⟨hp, gs, dr, tk, os⟩) : wpAny M A (checkBuiltinCall "type.__call__" ⟨.ref C :: us, kw⟩) Q E ⟨hp, gs, dr, tk, os⟩ := by
  have l3 := tc_sub
  have ty : (⟨hp, gs, dr, tk, os⟩ : Shared).TypeIs (.ref C) "type" := ⟨_, hC, rfl⟩
  simp only [checkBuiltinCall, tc_split, tc_kind]
  repeat (any_goals (first
    | assumption
    | with_reducible refine wpAny_loadPart_at hC ?_
    | with_reducible refine wpAny_map ?_
    | with_reducible refine wpAny_onRaise ?_
    | wp_step))
theorem callK (F : ExcBaseFacts B nw it bmB) (hT : ∀ X : String, bm.contains (.type X) = bmB.contains (.type X)) {fI : Addr} (hC : hp.get? C = some (excClassObj nm q C N bs bm hd sn sub ab col dd k0 k1 k2 k3 k5 nw)) (hz : us.length ≤ sizeLine)
    (hi : PySem.W.Looks (model prog w) hp (typeLookup (.ref C) "__init__") (some (.ref fI))) (hb : ∀ self, PySem.W.Looks (model prog w) hp (bindSpecial (.ref fI) self) (.ref fI, [self]))
    (z : codeAny (model prog w) (A.under (.builtin "type.__call__" ⟨.ref C :: us, kw⟩)) (.call (.ref fI) ⟨.ref (hp.objs.size + 1) :: us, kw⟩) (PySem.W.InitBack (hp.objs.size + 1) R) ⟨(hp.push (PySem.W.kdv_tup us)).push (excO C hp.objs.size), gs, dr, tk, os⟩) :
    codeAny (model prog w) A (.call (.ref C) ⟨us, kw⟩) R ⟨hp, gs, dr, tk, os⟩ := by
  have l1 := tc_lookup
  have l2 := tc_bind (.ref C)
  have ty : (⟨hp, gs, dr, tk, os⟩ : Shared).TypeIs (.ref C) "type" := ⟨_, hC, rfl⟩
  refine codeAny_of_tree ?_
  show wpAny _ _ (callAny (.ref C) _) _ _ _
  repeat (any_goals (first | assumption | with_reducible refine wpAny_loadPart_at hC ?_ | wp_step))
  refine ⟨rfl, ?_⟩
  refine codeAny_call_builtin_at (Code.quiet_builtin _ (by decide +kernel)) entry_typeCall (checkT hC (typeCallK F hT hC hz hi hb ?_))
  refine codeAny_mono z fun r s' y => ?_
  rcases r with e | (v | _ | _ | _) <;> exact y
end
end Ew
namespace Ew
open PySem PySem.Spec PyProof.Rows L2
/-- C(..), an own exception that is held as a value -/
def tMkV (C : Addr) (sp : Sp) (g : Addr → List V → List V) (ta : TA) : TE := fun σ H Q => ta σ H fun vs H1 => vs.length ≤ 1000 ∧ ∀ a, H1 a = none → sp (g a vs) (upd H1 a (exo a C none)) (fun v H2 => v = .non ∧ Q (.ref a) H2) fun _ _ _ => False
section
variable {X : Cx} {CX : CXT} {k : Nat} {C fI : Addr} {fd : FuncData} {ps : List Str} {sp : Sp} {x : Str} {p pos : Pos} {e : Expr} {es : List Expr} {ta : TA}
theorem run_oex {pins : List (Addr × Obj)} {σ : L2.St} {H : Hp} {s : Shared} {Q : VK} {us : List Value} {kw : List (Str × Value)} {L : Addr → List Value} {LV : Addr → List V} (T : OexC X.K C) (iC : PySem.W.findIn X.K (.ref C) "__init__" = some (some (.ref fI))) (tI : PySem.W.typeIn X.K (.ref fI) = some (.type "function"))
    (F : FnOk X.prog X.w X.K X.mg X.base CX k fI fd ps sp) (hr : Room (k + 1) X.A) (hx : Passes CX X fun _ _ _ => False) (I : Inv X pins σ H s) (hz : us.length ≤ sizeLine)
    (hb : ∀ (s' : Shared) (a : Addr), X.K.In s'.heap → (LV a).length = ps.length → BindsTo s' fd ⟨.ref a :: us, kw⟩ (ps.zip (L a))) (rl : ∀ a, Vals (LV a) (L a))
    (h : ∀ a, H a = none → sp (LV a) (upd H a (exo a C none)) (fun v H2 => v = .non ∧ Q (.ref a) H2) fun _ _ _ => False) :
    wpAny (model X.prog X.w) X.A (call (.ref C) us kw) (EP X pins σ Q) X.xe s := by
  obtain ⟨nm, q, N, bs, bm, sn, sub, ab, col, dd, k0, k1, k2, k3, k5, hC, hbm⟩ := T.cls
  obtain ⟨hp, g, dr, tk, os⟩ := s
  have hn : H (hp.objs.size + 1) = none := I.hok.fresh (Nat.le_succ _)
  have hq := h (hp.objs.size + 1) hn
  have old : ∀ b o, hp.get? b = some o → ((hp.push (PySem.W.kdv_tup us)).push (PySem.HandSPX.excO C hp.objs.size)).get? b = some o := fun b o z => Heap.get?_push_of_some _ (Heap.get?_push_of_some _ z)
  have hget : ((hp.push (PySem.W.kdv_tup us)).push (PySem.HandSPX.excO C hp.objs.size)).get? (hp.objs.size + 1) = some (PySem.HandSPX.excO C hp.objs.size) := by heap_get
  have J : Inv X pins σ (upd H (hp.objs.size + 1) (exo (hp.objs.size + 1) C none)) ⟨(hp.push (PySem.W.kdv_tup us)).push (PySem.HandSPX.excO C hp.objs.size), g, dr, tk, os⟩ :=
    I.laid (t' := tk) (a := hp.objs.size + 1) (o := exo (hp.objs.size + 1) C none) (h' := (hp.push (PySem.W.kdv_tup us)).push (PySem.HandSPX.excO C hp.objs.size)) old (Nat.le_succ _) (exo_ok hget)
  have hl := F.len _ _ _ _ hq
  refine wpAny_call (callK PySem.F.excBase_ValueError (fun Y => PySem.HandSPX.refsVE_contains Y bm hbm) (I.kIn _ _ hC) hz (PySem.W.looks_findIn I.kIn iC) (fun self => PySem.W.bind_fn I.kIn self tI)
    (codeAny_mono (F.run _ X.stack _ _ ⟨.ref (hp.objs.size + 1) :: us, kw⟩ (L (hp.objs.size + 1)) _ _ (fun _ _ _ => False) (hr.make C us kw) (J.env0.make C us kw) (hb _ _ J.kIn hl) (rl _) hq) fun r s' hq' => ?_))
  cases r with
  | error er => exact hx pins σ _ _ er s' J hq'
  | ok fl =>
    cases fl with
    | ret u =>
      obtain ⟨v, H', J2, rv, ev, q3⟩ := J.after hq'
      subst ev
      exact ⟨rv, ⟨V.ref (hp.objs.size + 1), H', J2, rfl, q3⟩⟩
    | next => exact False.elim hq'
    | brk => exact False.elim hq'
    | cont => exact False.elim hq'
/-- C(e, ..) -/
theorem pe_oex (T : OexC X.K C) (iC : PySem.W.findIn X.K (.ref C) "__init__" = some (some (.ref fI))) (tI : PySem.W.typeIn X.K (.ref fI) = some (.type "function")) (F : FnOk X.prog X.w X.K X.mg X.base CX k fI fd ps sp) (hr : Room (k + 1) X.A) (hb : Binds X.K fd ps []) (hx : Passes CX X fun _ _ _ => False)
    (hg : Gl X x) (hm : X.mg x = some (.ref C)) (ha : PA X (e :: es) ta) (hdb : (x == ("__debug__" : Str)) = false := by decide) (he : starEach (e :: es) X.env = (false, eval e X.env) :: starEach es X.env := by rfl) (hpl : (backTo pos (starEach es X.env)).any (·.1) = false := by rfl) :
    PE X (.Call (.Name x p) (e :: es) [] pos) (tMkV C sp (fun a vs => .ref a :: vs) ta) := by
  refine ⟨fun pins s σ H Q I h => wpAny_Call_Name_kw (ld_glob I hg hm ?_ hdb)⟩
  refine PySem.W.callWith_K (h₀ := X.base) I.ok.mod.kin T.kC (thn (ha.run pos pins s σ H _ I h) fun us s1 ⟨vs, H1, I1, r1, hz, q1⟩ => ⟨I1.kIn, ?_⟩) he hpl
  refine run_oex (us := us) (kw := []) (L := fun a => .ref a :: us) (LV := fun a => .ref a :: vs) T iC tI F hr hx I1 (by rw [← r1.length, sizeLine_eq]; omega) (fun s' a Y hl => ?_) (fun a => .cons rfl r1) q1
  have hl2 : (Value.ref a :: us).length = ps.length := by rw [← hl, List.length_cons, List.length_cons, r1.length]
  simpa using hb s' (.ref a :: us) Y (by simpa using hl2)
/-- C(k = v, ..) -/
theorem pe_oexK {ks : List Str} {kws : List Keyword} {tk : TA} {g : List Value → List Value → List Value} {gV : List V → List V → List V} (T : OexC X.K C) (iC : PySem.W.findIn X.K (.ref C) "__init__" = some (some (.ref fI))) (tI : PySem.W.typeIn X.K (.ref fI) = some (.type "function"))
    (F : FnOk X.prog X.w X.K X.mg X.base CX k fI fd ps sp) (hr : Room (k + 1) X.A) (hb : KBn X.K fd ps 1 ks g gV) (hx : Passes CX X fun _ _ _ => False) (hg : Gl X x) (hm : X.mg x = some (.ref C)) (hkw : PK X kws tk)
    (hall : (backToKw pos (keywordEach kws X.env)).all (·.1.isSome) = true := by rfl) (hks : (backToKw pos (keywordEach kws X.env)).filterMap (·.1) = ks := by rfl) (hdb : (x == ("__debug__" : Str)) = false := by decide)
    (hpl : ((backTo pos (starEach [] X.env)).any (·.1) || (backToKw pos (keywordEach kws X.env)).any (·.1.isNone)) = false := by rfl) :
    PE X (.Call (.Name x p) [] kws pos) (fun σ H Q => tk σ H fun zs H1 => zs.length = ks.length ∧ ∀ a, H1 a = none → sp (gV [.ref a] zs) (upd H1 a (exo a C none)) (fun v H2 => v = .non ∧ Q (.ref a) H2) fun _ _ _ => False) := by
  refine ⟨fun pins s σ H Q I h => wpAny_Call_Name_kw (ld_glob I hg hm ?_ hdb)⟩
  refine PySem.W.callWith_KW0 (h₀ := X.base) I.ok.mod.kin T.kC hall ?_ hpl
  refine thn (hkw.run pos pins s σ H _ I h) fun ws s2 ⟨zs, H2, I2, rz, l2, q2⟩ => ⟨I2.kIn, ?_⟩
  rw [hks]
  refine run_oex (us := []) (kw := ks.zip ws) (L := fun a => g [.ref a] ws) (LV := fun a => gV [.ref a] zs) T iC tI F hr hx I2 (Nat.zero_le _) (fun s' a Y hl => ?_) (fun a => hb.rel (.cons rfl .nil) rz) q2
  exact hb.to s' [.ref a] ws Y rfl (rz.length.symm.trans l2)
end
end Ew
namespace Ew
open PySem PySem.Spec PyProof.Rows L2
/-! ### an exception that is a value: its fields, its class -/
/-- an exception of the class cls at a, its dict at d -/
def exv (cls : Value) (d : Option Addr) (a : Addr) : HO := .ext fun h => ∃ (oe : Obj) (vs : Array Value), h.get? a = some oe ∧ Zc cls d oe ∧ oe.data = .fields vs
theorem exv_ok {P : Program} {w : World} {H : Hp} {h : Heap} {a : Addr} {cls : Value} {d : Option Addr} {oe : Obj} {vs : Array Value} (e : h.get? a = some oe) (z : Zc cls d oe) (f : oe.data = .fields vs) : ObjOk P w H h a (exv cls d a) :=
  ⟨⟨oe, vs, e, z, f⟩, ⟨oe, e⟩, fun _ _ ⟨o, v, q, r⟩ k => ⟨o, v, k o q, r⟩⟩
theorem exv_at {P : Program} {w : World} {H : Hp} {h : Heap} {a : Addr} {cls : Value} {d : Option Addr} (hok : HOk P w H h) (e : H a = some (exv cls d a)) : ∃ (oe : Obj) (vs : Array Value), h.get? a = some oe ∧ Zc cls d oe ∧ oe.data = .fields vs := by
  have x : ObjOk P w H h a (.ext fun h => ∃ (oe : Obj) (vs : Array Value), h.get? a = some oe ∧ Zc cls d oe ∧ oe.data = .fields vs) := hok a _ e
  exact x.1
/-- e.f, e such an exception that was made and not raised -/
def tVf (C : Addr) (f : Str) (te : TE) : TE := fun σ H Q => te σ H fun x H1 => ∃ (a dd : Addr) (fs : List (Str × V)) (v : V), x = .ref a ∧ H1 a = some (exo a C (some dd)) ∧ H1 dd = some (exd dd fs) ∧ fs.lookup f = some v ∧ Q v H1
theorem pe_vf {X : Cx} {C : Addr} {e : Expr} {te : TE} {pos : Pos} {n : Str} (T : XfC X.K C) (hno : PySem.W.findIn X.K (.ref C) n = some none) (he : PE X e te) (hb : attributeBase e n X.env (eval e X.env) = eval e X.env := by rfl) :
    PE X (.Attribute e n pos) (tVf C n te) := by
  refine ⟨fun pins s σ H Q I h => attr_of hb (thn (he.run pins s σ H _ I h) fun u s1 hh => ?_)⟩
  obtain ⟨x, H1, I1, rx, a, dd, fs, v, ex, ea, ed, l, q⟩ := hh
  subst ex
  obtain rfl : u = Value.ref a := rx
  obtain ⟨t1, ha⟩ := exo_at I1.hok ea
  obtain ⟨mA, hns, hr⟩ := exd_at I1.hok ed
  obtain ⟨od, ho, hl⟩ := lookIn_ns hns
  obtain ⟨u, hu, ru⟩ := RelO.some_of (v := v) (o := mA n) (by rw [← l]; exact hr n)
  have J : PySem.W.InstAt s1.heap a _ C (some od) := ⟨ha, rfl, rfl, ho⟩
  exact HandSPX.exc_get I1.kIn J T.ga T.gg T.exC (PySem.W.findObj_own T.hdC hno rfl (by rw [hl, hu])) (handed_of ru) ⟨v, H1, I1.tok _, ru, q⟩
section
open PySem.W PySem.Calls
variable {prog : Program} {w : World} {A : Around} {E : Value → Shared → Prop} {s : Shared} {K : Frag} {x D : Addr} {ox : Obj} {od : Option Obj}
theorem findC {D : Addr} {od : Option Obj} (C : ExcC K D) : findObj K D od "__class__" = some (.bind (.builtin "getset_descriptor.__get__") (.builtin "object.__class__")) := by
  obtain ⟨cd, e, _⟩ := any_some C.hd
  have e1 := C.ha
  have e2 := C.hn
  have e3 := C.ht
  unfold findObj
  rw [e, Option.bind_some, e1, Option.bind_some]
  simp [e2, e3]
theorem classX {Q : Option Value → Shared → Prop} (C : ExcC K D) (X : K.In s.heap) (I : InstAt s.heap x ox D od) (h : Q (some (.ref D)) { s with toks := s.toks + 1 }) : wpAny (model prog w) A (getAttr? (.ref x) "__class__") Q E s := by
  have fC := findC (od := od) C
  obtain ⟨hh, gg, dr, tk, os⟩ := s
  have K0 := I.type (M := model prog w)
  have K1 := looks_findIn (M := model prog w) X C.hg
  have K2 := looks_findIn (M := model prog w) X C.hk
  have K3 := looks_find (M := model prog w) X I fC
  have isB : Looks (model prog w) hh (isInstance (.ref x) (.type "BaseException")) true := K0.andThen (looks_subIn X C.hs)
  have n0 : (false && onTheHeap (Value.builtin "BaseException.__getattribute__")) = false := Bool.false_and _
  have n2 : ((Value.builtin "BaseException.__getattribute__") == (Value.builtin "object.__getattribute__")) = false := by decide +kernel
  have n1 : (onTheHeap (Value.ref D) && ((Value.builtin "BaseException.__getattribute__") == (Value.builtin "object.__getattribute__"))) = false := by
    rw [n2]
    exact Bool.and_false _
  unfold getAttr? getAttrBy? getAttrBy
  refine wpAny_bind (wpAny_mkText (wpAny_bind (wpAny_attempt ?_)))
  refine wpAny_holding (wpAny_bind (K0.at (wpAny_bind (K1.at ?_))))
  show wpAny _ _ (if (onTheHeap (Value.ref D) && ((Value.builtin "BaseException.__getattribute__") == (Value.builtin "object.__getattribute__"))) = true then _ else _) _ _ _
  rw [if_neg (by rw [n1]; exact Bool.false_ne_true)]
  unfold getAttrByItsOwn hookBefore
  refine wpAny_bind ?_
  rw [if_pos (show onTheHeap (Value.ref D) = true from rfl)]
  refine K2.at (wpAny_bind (wpAny_attempt (wpAny_holding ?_)))
  unfold callGetattribute
  rw [if_neg (by rw [n0]; exact Bool.false_ne_true)]
  unfold boundAndCalled
  rw [PySem.F.excAttr_ValueError.ga.bind (.ref x)]
  refine wpAny_bind (wpAny_pure ?_)
  refine wpAny_call (codeAny_call_builtin PySem.F.excAttr_ValueError.ga.plain PySem.F.entry_bexc_ga ?_)
  refine @check_slot (model prog w) _ _ ⟨hh, gg, dr, tk + 1, os⟩ _ "BaseException" "__getattribute__" _ _ [] _ (by decide +kernel) (by decide +kernel) isB (PySem.F.args_bexc_ga _ _) ?_
  unfold Builtin.«object.__getattribute__»
  refine wpAny_bind (wpAny_of_eq (a := ((Value.ref x : Value), [Value.str "__class__" tk])) (by first | rfl | (simp only [slotArgs]; rfl)) ?_)
  refine wpAny_bind (wpAny_pure (wpAny_bind (K0.at (wpAny_bind (K3.at ?_)))))
  show wpAny _ _ (holding [Value.builtin "object.__class__"] (call (.builtin "getset_descriptor.__get__") [.builtin "object.__class__", .ref x, .ref D]) >>= ret) _ _ _
  refine wpAny_bind (wpAny_holding (wpAny_call (class_get (s := ⟨hh, gg, dr, tk + 1, os⟩) (ox := ox) (od := od) X I C.hm (wpAny_pure ?_))))
  show wpAny _ _ (handedOut (.ref D)) _ _ _
  rw [handedOut_of (v := .ref D) rfl]
  first
    | exact wpAny_pure (wpAny_pure h)
    | exact wpAny_pure h
    | exact wpAny_pure (wpAny_bind (wpAny_pure (wpAny_pure h)))
theorem kitX_exc (C : ExcC K D) : KitX K (.ref x) (.ref D) fun h => InstAt h x ox D od where
  ty := fun _ _ _ I => I.type
  ca := fun X I k => classX C X I k
  it := fun _ _ X _ => by
    obtain ⟨cd, hc, _⟩ := any_some C.hd
    unfold clsIn at hc
    split at hc
    · rename_i u1 u2 u3 u4 ho
      intro A' Q' E' s' k q
      unfold isType loadHead
      exact wpAny_bind (wpAny_loadPart (k _ _ (X _ _ ho)) (wpAny_pure q))
    · cases hc
  ne := fun h tp dd its n sl X ht => by
    obtain ⟨cd, hc, _⟩ := any_some C.hd
    refine Bool.eq_false_iff.mpr fun q => ?_
    have e : D = tp := Value.ref.inj (beq_iff_eq.mp q)
    subst e
    unfold clsIn at hc
    split at hc
    · rename_i u1 u2 u3 u4 ho
      cases (X _ _ ho).symm.trans ht
    · cases hc
end
/-- isinstance(e, c), e an exception that is held as a value -/
def rIsV (K : PySem.W.Frag) (D : Addr) : List V → Hp → VK → Prop := fun xs H Q => ∃ (a : Addr) (d : Option Addr) (c : V) (cv : Value) (b : Bool), xs = [.ref a, c] ∧ H a = some (exv (.ref D) d a) ∧ (∀ dd, d = some dd → ∃ fs, H dd = some (.xd fs)) ∧ (∀ u, RelV c u → u = cv) ∧ PySem.W.kitOne K (.ref D) cv = some b ∧ Q (.bl b) H
theorem call_isV {X : Cx} {D : Addr} (C : ExcC X.K D) : CallR X (.builtin "isinstance") (rIsV X.K D) := by
  intro pins s σ H xs us Q I r h
  obtain ⟨a, d, c, cv, b, rfl, ea, ed, hcv, e, q⟩ := h
  cases r with
  | cons rx rr =>
    cases rr with
    | cons rt rr =>
      cases rr
      cases rx
      cases hcv _ rt
      obtain ⟨oe, vs, he, hz, hf⟩ := exv_at I.hok ea
      have J : ∃ od, PySem.W.InstAt s.heap a oe D od := by
        obtain ⟨oc, od, oda, osl⟩ := oe
        obtain ⟨h1, h2⟩ := hz
        dsimp only at h1 h2 hf
        subst h1 h2 hf
        cases od with
        | none => exact ⟨none, he, rfl, rfl, trivial⟩
        | some dd =>
          obtain ⟨fs, hd⟩ := ed dd rfl
          have hx : ObjOk X.prog X.w H s.heap dd (.xd fs) := I.hok dd _ hd
          obtain ⟨mA, hns, _⟩ := hx
          obtain ⟨o, ho, _⟩ := lookIn_ns hns
          exact ⟨some o, he, rfl, rfl, ho⟩
      obtain ⟨od, J⟩ := J
      exact PySem.W.kia_one (kitX_exc C) I.kIn J e (fun z => nomatch z) fun tk => ⟨.bl b, H, I.kept (t' := tk) fun _ _ z => z, rfl, q⟩
end Ew
namespace Ew
open PySem PySem.Spec PyProof.Rows L2
/-! ### try: .. except C as e: return e -/
section
variable {X : Cx} {pins : List (Addr × Obj)} {σ : L2.St} {H : Hp} {s : Shared} {a : Addr} {oe : Obj} {vs : Array Value} {cls : Value} {d : Option Addr}
/-- a pinned exception that was not there at the entry may be tracked -/
theorem track (I : Inv X ((a, oe) :: pins) σ H s) (new : X.s_0.heap.get? a = none) (np : ∀ p ∈ X.pn ++ pins, p.1 ≠ a) (hz : Zc cls d oe) (hf : oe.data = .fields vs) : Inv X pins σ (upd H a (exv cls d a)) s := by
  obtain ⟨he, na, nl, nf, nc⟩ := I.pin (a, oe) (List.mem_append_right _ List.mem_cons_self)
  have old : ∀ {b : Addr} {o : HO}, H b = some o → upd H a (exv cls d a) b = some o := fun {b o} z => by
    rw [upd_ne (ne_of_none z na)]
    exact z
  have base : Un X.fs X.ex X.H_0 (upd H a (exv cls d a)) X.s_0.heap s.heap := by
    refine ⟨I.base.keep, I.base.slot, fun b o z n hx => ?_, I.base.there, fun b xs z => old (I.base.tups b xs z), fun b o u z => old (I.base.frzs b o u z), fun b ps z => ?_⟩
    · rw [upd_ne (fun e => by rw [e, new] at z; cases z)]
      exact I.base.free b o z n hx
    · obtain ⟨m, e⟩ := I.base.tbls b ps z
      exact ⟨m, old e⟩
  refine ⟨I.ok, I.os, I.bare, base, I.loc, I.cell, ?_, fun x c e => ?_, fun p hp => ?_, fun b o z => ?_, I.len⟩
  · rw [upd_ne (Ne.symm nl)]
    exact I.free
  · obtain ⟨v, hc⟩ := I.cell x c e
    rw [upd_ne (fun z => ?_)]
    · exact I.freeC x c e
    · subst z
      obtain ⟨o, ho, hd⟩ := hc
      rw [he] at ho
      cases ho
      exact absurd hd (nc v)
  · obtain ⟨e1, e2, e3, e4, e5⟩ := I.pin p ((List.mem_append.mp hp).elim (fun h => List.mem_append_left _ h) fun h => List.mem_append_right _ (List.mem_cons_of_mem _ h))
    exact ⟨e1, by rw [upd_ne (np p hp)]; exact e2, e3, e4, e5⟩
  · by_cases hb : b = a
    · subst hb
      rw [upd_same] at z
      cases z
      exact exv_ok he hz hf
    · rw [upd_ne hb] at z
      exact (I.hok b o z).stay (fun c v _ q => q) (fun c q => old q) fun c xs q => old q
end
/-- what the clause wishes: the suite hands the exception back -/
def wRet (K : PySem.W.Frag) (c : Value) (i : Nat) (ts : Addr → Value → Option Addr → TS) (D : Ends) : WX := fun cls d σ H =>
  PySem.W.exmOne K cls c = some true ∧ ∀ a, H a = none → ts a cls d { nx := fun _ _ => False, rt := fun v H' => D.rt v (upd H' a (exv cls d a)) } (σ.set i (some (.ref a))) H
section
variable {X : Cx} {x n : Str} {c : Value} {i : Nat} {body suite : List Stmt} {b₀ : Stmt} {np pos pos' : Pos} {tb : WX → TS} {ts : Addr → Value → Option Addr → TS}
theorem ps_try_ret (hex : X.ex = []) (hs : X.stack = X.env :: X.outer) (hf : X.env.frame = some X.env.locals) (hN : X.N.Nodup) (hi : X.N[i]? = some n) (hln : X.env.kindOf n = some .local) (hc : Names X x c)
    (hb : ∀ (W : WX) (pn : List (Addr × Obj)) (xe : Value → Shared → Prop), Takes (X.tr pn xe) W → PassesOwn (model X.prog X.w) X.A X.env xe → PSs (X.tr pn xe) body (tb W))
    (hsu : ∀ (a : Addr) (oe : Obj) (cls : Value) (d : Option Addr) (pn : List (Addr × Obj)), Zc cls d oe → (∃ vs, oe.data = .fields vs) → PSs (X.suite a ((a, oe) :: pn)) (b₀ :: suite) (ts a cls d)) :
    PS X (.Try body [.ExceptHandler (some (.Name x np)) (some n) (b₀ :: suite) pos'] [] [] pos) (fun D σ H => tb (wRet X.K c i ts D) D σ H) := by
  refine ⟨fun pins s σ H D I h => ?_⟩
  have ok := I.ok
  have frames : X.A.frames = some (X.env :: X.outer) := by
    rw [ok.frames, hs]
  refine wpAny_Try_except ?_
  refine wpAny_mono ((hb (wRet X.K c i ts D) (X.pn ++ pins) (fun e s1 => wpAny (model X.prog X.w) X.A (noteFrame e X.env) (fun _ s2 => wpAny (model X.prog X.w) X.A (setFlight e none) (fun _ s3 =>
      wpAny (model X.prog X.w) X.A (handleBy e X.env [.ExceptHandler (some (.Name x np)) (some n) (b₀ :: suite) pos']) (SP X pins D) X.xe s3) X.xe s2) X.xe s1)
    (fun u s' air => ?_) PassesOwn.looking).run [] s σ H D (I.toTry _) h) (fun f s1 done => ?_) (fun e s1 z => z)
  · obtain ⟨a, G, sI, ps2, σ1, H1, cls, d, rfl, J0, ground, up, sky, na, eos, bare, yes, want⟩ := air
    have J : Inv X pins σ1 H1 sI := J0.ofTry ok
    rw [hs] at sky
    show wpAny (model X.prog X.w) X.A (noteFrame (.ref a) X.env) _ _ _
    refine Sky.land Zc.steady frames hf sky fun h3 fly up3 => ?_
    have J3 : Inv X pins σ1 H1 { s' with heap := h3 } := J.landed ground fly.1 (up.trans up3) eos bare
    obtain ⟨o3, f3, e3, z3, d3⟩ := fly.there
    have nfr : a ∉ frs (X.env :: X.outer) := fun hm => by
      obtain ⟨_, o', e', nof⟩ := fly.2.2.1.mem hm
      rw [e3] at e'
      cases e'
      exact nof _ d3
    have nL : a ≠ X.env.locals := fun z => nfr (List.mem_filterMap.mpr ⟨X.env, List.mem_cons_self, by rw [hf, z]⟩)
    have nF : a ∉ X.fs := fun hm => by
      obtain ⟨e, he, q⟩ := List.mem_filterMap.mp hm
      exact nfr (List.mem_filterMap.mpr ⟨e, List.mem_cons_of_mem _ he, q⟩)
    -- it is new
    have nI : sI.heap.get? a = none := by
      cases e : sI.heap.get? a with
      | none => rfl
      | some o =>
        have q := ground a o e (by rw [hs]; exact nfr)
        rw [fly.2.1] at q
        cases q
    have new : X.s_0.heap.get? a = none := by
      cases e : X.s_0.heap.get? a with
      | none => rfl
      | some o =>
        obtain ⟨o', q⟩ := J.base.there a o e (by rw [hex]; simp)
        rw [nI] at q
        cases q
    have np2 : ∀ p ∈ X.pn ++ pins, p.1 ≠ a := fun p hp z => by
      obtain ⟨q, _⟩ := J.pin p hp
      rw [z, nI] at q
      cases q
    have S3 := J3.suite e3 d3 na nL nF
    refine wpAny_handleBy_cons (codeAny_handlers_test ?_) (by intro q; cases q)
    have ty : PySem.W.Looks (model X.prog X.w) h3 (typeOf (.ref a)) cls := fun A Q E s k q => wpAny_typeOf_ref (k _ _ e3) (by rw [z3.1]; exact q)
    have mt := PySem.W.exm_one (M := model X.prog X.w) (J3.kIn) ty yes
    have name : ∀ {Q : Value → Shared → Prop} {E : Value → Shared → Prop}, Q c { s' with heap := h3 } → wpAny (model X.prog X.w) (X.A.mark (some (.ref a))) (eval (.Name x np) X.env) Q E { s' with heap := h3 } := fun {Q E} q => by
      obtain ⟨g1, g2, g3 | ⟨g3, g4, g5⟩⟩ := hc
      · exact ld_glob (X := X.suite a ((a, o3) :: (X.pn ++ pins))) S3 g1 g3 q g2
      · exact ld_blt (X := X.suite a ((a, o3) :: (X.pn ++ pins))) S3 g1 g3 g4 q g5 g2
    refine name (mt.here ?_)
    refine codeAny_handlers_suite_as ?_
    refine HandSPX.lands_againZ fly fun h4 fly4 up4 => ?_
    have J4 : Inv X pins σ1 H1 { s' with heap := h4 } := J.landed ground fly4.1 ((up.trans up3).trans up4) eos bare
    obtain ⟨o4, f4, e4, z4, d4⟩ := fly4.there
    have S4 := J4.suite e4 d4 na nL nF
    refine store_ok (X := X.suite a ((a, o4) :: (X.pn ++ pins))) (v := .ref a) S4 hN hi (.inl hln) rfl (fun s5 S5 => ?_) (.inr hln)
    refine wpAny_mono ((hsu a o4 cls d (X.pn ++ pins) z4 ⟨_, d4⟩).run [] s5 _ H1 _ S5 (want a na)) (fun f s6 done => ?_) (fun _ _ z => False.elim z)
    cases f with
    | next => exact done.elim fun _ q => q.elim fun _ q => q.2.elim
    | brk => exact done.elim fun _ q => q.elim fun _ q => q.2.elim
    | cont => exact done.elim fun _ q => q.elim fun _ q => q.2.elim
    | ret u =>
      obtain ⟨v6, σ6, H6, S6, r6, q6⟩ := done
      have P6 : Inv X ((a, o4) :: pins) σ6 H6 s6 := ⟨ok, S6.os, S6.bare, S6.base, S6.loc, S6.cell, S6.free, S6.freeC, fun p hp => S6.pin p (by
        rcases List.mem_append.mp hp with h | h
        · exact List.mem_append_left _ (List.mem_cons_of_mem _ (List.mem_append_left _ h))
        · rcases List.mem_cons.mp h with h | h
          · rw [h]; exact List.mem_append_left _ List.mem_cons_self
          · exact List.mem_append_left _ (List.mem_cons_of_mem _ (List.mem_append_right _ h))), S6.hok, S6.len⟩
      exact gone_ok P6 hN hi hln fun s7 P7 => ⟨_, _, _, track P7 new np2 z4 d4, r6, q6⟩
  · cases f with
    | next =>
      obtain ⟨σ1, H1, J1, q⟩ := done
      exact wpAny_execs_nil ⟨σ1, H1, J1.ofTry ok, q⟩
    | brk =>
      obtain ⟨σ1, H1, J1, q⟩ := done
      exact ⟨σ1, H1, J1.ofTry ok, q⟩
    | cont =>
      obtain ⟨σ1, H1, J1, q⟩ := done
      exact ⟨σ1, H1, J1.ofTry ok, q⟩
    | ret u =>
      obtain ⟨v, σ1, H1, J1, r, q⟩ := done
      exact ⟨v, σ1, H1, J1.ofTry ok, r, q⟩
end
end Ew
namespace Ew
open PySem PySem.Spec PyProof.Rows L2
section
variable {X : Cx} {CX : CXT} {k : Nat} {C fI : Addr} {fd : FuncData} {ps : List Str} {sp : Sp} {x : Str} {p pos : Pos} {e : Expr} {te : TE}
/-- C() -/
theorem pe_oex0 (T : OexC X.K C) (iC : PySem.W.findIn X.K (.ref C) "__init__" = some (some (.ref fI))) (tI : PySem.W.typeIn X.K (.ref fI) = some (.type "function")) (F : FnOk X.prog X.w X.K X.mg X.base CX k fI fd ps sp) (hr : Room (k + 1) X.A) (hb : Binds X.K fd ps []) (hx : Passes CX X fun _ _ _ => False)
    (hg : Gl X x) (hm : X.mg x = some (.ref C)) (hdb : (x == ("__debug__" : Str)) = false := by decide) :
    PE X (.Call (.Name x p) [] [] pos) (tMkV C sp (fun a vs => .ref a :: vs) tNil) := by
  refine ⟨fun pins s σ H Q I h => wpAny_Call_Name_kw (ld_glob I hg hm ?_ hdb)⟩
  obtain ⟨hz, q1⟩ := h
  refine PySem.W.callWith_K0 I.kIn T.kC ?_
  refine run_oex (us := []) (kw := []) (L := fun a => [.ref a]) (LV := fun a => [.ref a]) T iC tI F hr hx I (Nat.zero_le _) (fun s' a Y hl => ?_) (fun a => .cons rfl .nil) q1
  simpa using hb s' [.ref a] Y (by simpa using hl)
/-- raise e, e such a value without a dict -/
theorem pmk_val (T : OexC X.K C) (hx : X.ex = []) (he : PE X e te) : PMk X e fun σ H Q => te σ H fun v H1 => ∃ a : Addr, v = .ref a ∧ H1 a = some (exo a C none) ∧ Fr0 X.H_0 a ∧ Q (.ref C) none (delH H1 a) := by
  intro pins s σ H Q I h
  refine thn (he.run pins s σ H _ I h) fun u s1 z => ?_
  obtain ⟨v, H1, I1, rv, a, ev, ea, fr, q⟩ := z
  subst ev
  obtain rfl : u = Value.ref a := rv
  obtain ⟨t1, ho⟩ := exo_at I1.hok ea
  obtain ⟨G, g1, g2, J⟩ := I1.untrack (a := a) ea fr hx
  exact ⟨a, _, _, { s1 with heap := G }, delH H1 a, .ref C, none, rfl, J, g1, g2, ho, ⟨rfl, rfl⟩, rfl, rfl, delH_same, rfl, I1.bare, raises_own T.exC T.tyC, q⟩
end
/-! ### ValueError() and its class -/
theorem call_veIs {X : Cx} (hu : True) : CallR X (.builtin "isinstance") fun xs H Q => ∃ (a : Addr) (T : Value) (c : V) (cv : Value) (b : Bool), xs = [.ref a, c] ∧ H a = some (ExO (.type "ValueError") a) ∧ (∀ u, RelV c u → u = cv) ∧ PySem.W.kitOne X.K (.type "ValueError") cv = some b ∧ Q (.bl b) H := by
  intro pins s σ H xs us Q I r h
  obtain ⟨a, T, c, cv, b, rfl, ea, hcv, e, q⟩ := h
  cases r with
  | cons rx rr =>
    cases rr with
    | cons rt rr =>
      cases rr
      cases rx
      cases hcv _ rt
      have x : ObjOk X.prog X.w H s.heap a (.ext fun h => ∃ (oe : Obj) (vs : Array Value), h.get? a = some oe ∧ Zc (.type "ValueError") none oe ∧ oe.data = .fields vs ∧ vs[1]? = some .none ∧ vs[2]? = some .none ∧ 4 < vs.size) := I.hok a _ ea
      obtain ⟨oe, vs, he, hz, _⟩ := x.1
      exact PySem.W.kia_one (PySem.W.kitx_bexc PySem.F.excAttr_ValueError PySem.F.lkClass_ValueError PySem.F.soClass_ValueError (by decide)) I.kIn ⟨oe, he, hz.1⟩ e (fun z => nomatch z) fun tk => ⟨.bl b, H, I.kept (t' := tk) fun _ _ z => z, rfl, q⟩
theorem pe_ve0 {X : Cx} {p pos : Pos} (hg : Gl X "ValueError") (hm : X.mg "ValueError" = none) : PE X (.Call (.Name "ValueError" p) [] [] pos) fun _ H Q => ∀ a, H a = none → Q (.ref a) (upd H a (ExO (.type "ValueError") a)) := by
  refine ⟨fun pins s σ H Q I h => wpAny_Call_Name_kw (ld_blt I hg hm boot_ValueError ?_ (by decide) (by decide))⟩
  obtain ⟨hp, gs, dr, tk, os⟩ := s
  refine PyProof.Rows.callWith_type0 (wpAny_call_exc exb_ValueError.call (fun h' a mk => ?_) (Nat.zero_le _))
  have made := PySem.Heap.MadeExc.of mk
  have hn : H a = none := I.hok.gone mk.new
  obtain ⟨t, ht, _, _⟩ := made.there
  exact ⟨.ref a, upd H a (ExO (.type "ValueError") a), I.laidN (t' := tk) made.keeps made.new hn (exO_ok ht ⟨rfl, rfl⟩ rfl rfl rfl (show 4 < 6 by decide)), rfl, h a hn⟩
end Ew
namespace Ew
open PySem PySem.Spec PyProof.Rows L2
/-! ### values of the errors, {'a': 1} among them -/
def dA : PyData := .dict [(.str "a", .int 1)]
def D1v (K : PySem.W.Frag) (H : Hp) (v : V) (d : PyData) : Prop := Dq K (fun _ => True) H v d ∨ ∃ a, v = .ref a ∧ H a = some (.dK [(.inr "a", .int 1)]) ∧ d = dA
theorem D1v.same {K : PySem.W.Frag} {H H' : Hp} {v : V} {d : PyData} (s : Same H H') (h : D1v K H v d) : D1v K H' v d := by
  rcases h with h | ⟨a, h1, h2, h3⟩
  · exact .inl (h.over (over_same s))
  · exact .inr ⟨a, h1, s _ _ h2, h3⟩
theorem pairs1 {prog : Program} {w : World} {κ : Type} [DecidableEq κ] {knd : PySem.KeyKind prog w κ} {es : List DictEntry} {kvs : List (κ × Value)} {kv : κ × Value} (h : PySem.Pairs knd es kvs) (e : kvs = [kv]) : ∃ x, es = [x] ∧ knd.is kv.1 x.key = true ∧ x.val = kv.2 := by
  cases h with
  | nil => cases e
  | cons h1 h2 h3 =>
    injection e with e1 e2
    subst e1
    subst e2
    cases h3
    exact ⟨_, rfl, h1, h2⟩
section
variable {X : Cx} {pins : List (Addr × Obj)} {σ : L2.St} {H : Hp} {s : Shared}
theorem d1_reads (I : L2.Inv X pins σ H s) (low : H sysModules = none) {v : V} {d : PyData} {u : Value} (h : D1v X.K H v d) (r : RelV v u) : ∃ as, Reads s.heap u d as ∧ sysModules ∉ as := by
  rcases h with h | ⟨a, rfl, ea, rfl⟩
  · exact dq_reads I low d v u h r
  · cases (show u = Value.ref a from r)
    obtain ⟨_, z2, vs, z3, o, es, ep, h1, h2, h3, _, h5, _⟩ := (show ObjOk X.prog X.w H s.heap a (.dK [(.inr "a", .int 1)]) from I.hok a _ ea)
    cases z3 with
    | @cons _ q _ qs z3 z4 =>
      cases z4
      obtain ⟨k, v1⟩ := q
      obtain ⟨e1, t1, e2⟩ := z3
      dsimp only at e1 e2
      subst e1 e2
      obtain ⟨en, e3, e4, e5⟩ := pairs1 h5 rfl
      have e4' : keyIs (.inr "a") en.key = true := e4
      rcases keyIs_shape e4' with ⟨i, t, e, _⟩ | ⟨x, t, e, ek⟩
      · cases e
      · cases e
        refine ⟨_, .dict (as := []) (bs := []) h1 h2.1 h3 (by rw [e3]; show ReadsAll s.heap [en.key] [.str "a"] ([] ++ []); rw [ek]; exact .cons (.str _ _) .nil) (by rw [e3]; show ReadsAll s.heap [en.val] [.int 1] ([] ++ []); rw [e5]; exact .cons (.int _ _) .nil), ?_⟩
        intro z
        rw [List.append_nil, List.mem_singleton] at z
        rw [← z] at z2
        simp at z2
theorem d1_readsAll (I : L2.Inv X pins σ H s) (low : H sysModules = none) : ∀ {vs : List V} {ds : List PyData} {us : List Value}, Paired (D1v X.K H) vs ds → Vals vs us → ∃ as, ReadsAll s.heap us ds as ∧ sysModules ∉ as
  | [], [], us, _, r => by
    cases r
    exact ⟨_, .nil, by simp⟩
  | v :: vs, d :: ds, us, .cons a b, r => by
    cases r with
    | cons r1 r2 =>
      obtain ⟨as, h1, n1⟩ := d1_reads I low a r1
      obtain ⟨bs, h2, n2⟩ := d1_readsAll I low b r2
      refine ⟨_, .cons h1 h2, fun z => ?_⟩
      rcases List.mem_append.mp z with z | z
      · exact n1 z
      · exact n2 z
end
/-- repr of such a value -/
def rRep1 (K : PySem.W.Frag) : List V → Hp → VK → Prop := fun xs H Q => ∃ (v : V) (d : PyData), xs = [v] ∧ D1v K H v d ∧ d.showable = true ∧ d.depth ≤ 60 ∧ d.shown.length ≤ sizeLine ∧ Q (.str d.shown) H
/-- repr of a list of such -/
def rRepL (K : PySem.W.Frag) : List V → Hp → VK → Prop := fun xs H Q => ∃ (a : Addr) (vs : List V) (ds : List PyData), xs = [.ref a] ∧ H a = some (.lst vs) ∧ Paired (D1v K H) vs ds ∧ (PyData.list ds).showable = true ∧ (PyData.list ds).depth ≤ 60 ∧ (PyData.list ds).shown.length ≤ sizeLine ∧ Q (.str (PyData.list ds).shown) H
section
variable {X : Cx}
theorem call_rep1 (hb : ∃ o, X.base.get? sysModules = some o) (hg : X.A.guards = some []) (hu : X.A.units + 64 < cLine) : CallR X (.builtin "repr") (rRep1 X.K) := by
  intro pins s σ H xs us Q I r h
  obtain ⟨v, d, rfl, hd, hs, hdep, hsz, q⟩ := h
  rcases hd with hd | ⟨a, rfl, ea, rfl⟩
  · exact call_reprQ hb hg hu pins s σ H _ us Q I r ⟨_, v, d, rfl, hd, hs, hdep, hsz, q⟩
  · cases r with
    | cons r1 r2 =>
      cases r2
      obtain ⟨as, rd, na⟩ := d1_reads I (low_of I hb) (.inr ⟨a, rfl, ea, rfl⟩) r1
      cases r1
      exact repr_of_reads' rd hs (fun _ => na) hg (by omega) (fun _ _ e => e) (fun h' u tk hk => ⟨.str _, H, I.kept (t' := tk) hk, ⟨_, rfl⟩, q⟩) hsz
theorem call_repL (hb : ∃ o, X.base.get? sysModules = some o) (hg : X.A.guards = some []) (hu : X.A.units + 64 < cLine) : CallR X (.builtin "repr") (rRepL X.K) := by
  intro pins s σ H xs us Q I r h
  obtain ⟨a, vs, ds, rfl, ea, hp, hs, hdep, hsz, q⟩ := h
  cases r with
  | cons r1 r2 =>
    cases r2
    cases r1
    have low := low_of I hb
    obtain ⟨_, its, n, rv, h1⟩ := (show ObjOk X.prog X.w H s.heap a (.lst vs) from I.hok a _ ea)
    obtain ⟨as, ra, na⟩ := d1_readsAll I low hp rv
    have na2 : sysModules ∉ a :: as := fun z => by
      rcases List.mem_cons.mp z with z | z
      · rw [z, ea] at low
        cases low
      · exact na z
    exact repr_of_reads' (.list h1 rfl rfl ra) hs (fun _ => na2) hg (by omega) (fun _ _ e => e) (fun h' u tk hk => ⟨.str _, H, I.kept (t' := tk) hk, ⟨_, rfl⟩, q⟩) hsz
end
end Ew
namespace Ew
open PySem PySem.Spec PyProof.Rows L2
/-- a call that may raise within a try: what leaves it is told of this very state -/
def tCallS (sp : Sp) (W : WX) (t : TA) : TE := fun σ H Q => t σ H fun vs H1 => sp (vs ++ []) H1 Q fun cls d H2 => W cls d σ H2
section
variable {X : Cx} {j k : Nat} {sp : Sp} {x : Str} {p pos : Pos} {e : Expr} {es : List Expr} {t : TA} {W : WX}
theorem pe_cXS (c : CalX X.prog X.w X.K X.mg X.base k x sp) (hr : Room j X.A) (hk : k ≤ j) (hg : Gl X x) (tk : Takes X W) (ha : PA X (e :: es) t)
    (hdb : (x == ("__debug__" : Str)) = false := by decide) (he : starEach (e :: es) X.env = (false, eval e X.env) :: starEach es X.env := by rfl) (hpl : (backTo pos (starEach es X.env)).any (·.1) = false := by rfl) :
    PE X (.Call (.Name x p) (e :: es) [] pos) (tCallS sp W t) := by
  obtain ⟨f, fd, ps, F, hm, kp, hb⟩ := c.ex
  refine ⟨fun pins s σ H Q I h => wpAny_Call_Name_kw (ld_glob I hg hm ?_ hdb)⟩
  refine PySem.W.callWith_K (h₀ := X.base) I.ok.mod.kin kp (thn (ha.run pos pins s σ H _ I h) fun us s1 ⟨vs, H1, I1, r, q⟩ => ⟨I1.kIn, ?_⟩) he hpl
  have q2 : sp vs H1 Q fun cls d H2 => W cls d σ H2 := by
    rw [← List.append_nil vs]
    exact q
  have hl : us.length = ps.length := by rw [← r.length]; exact F.len _ _ _ _ q2
  refine wpAny_call (codeAny_mono (F.run X.A X.stack s1 H1 ⟨us, []⟩ us vs Q _ (hr.mono hk) I1.env0 (by simpa using hb s1 us I1.kIn (by simpa using hl)) r q2) fun r s' hq => ?_)
  cases r with
  | error u => exact tk u s' (XE.of_call I1 (fun _ _ _ z => z) hq)
  | ok fl =>
    cases fl with
    | ret u => exact I1.after hq
    | next => exact False.elim hq
    | brk => exact False.elim hq
    | cont => exact False.elim hq
end
theorem q_dropS {τ : Type} {K : PySem.W.Frag} {C : Addr} {ks : Ka K C τ} {S : List Addr} {H : Hp} {σ : L2.St} {D : Ends} {sp : Sp} {W : WX} {ta : TA} {x : τ} (h : EvA ks S H ta σ x) (q : ∀ vs H2, Same H H2 → ks.rps S H2 vs x → sp (vs ++ []) H2 (fun v H3 => D.nx σ H3) (fun cls d H3 => W cls d σ H3)) : tDrop (tCallS sp W ta) D σ H := h.use q
section
variable {P : Program} {w : World} {K : PySem.W.Frag} {mg : Str → Option Value} {base : Heap} {C SB RE tb : Addr}
def shortSet (b : Bk) (as : List Int) : List Int := match extB b (noRowsB b) as with
  | .inl _ => []
  | .inr l => l
abbrev sLSO : Stmt := (top 52)
theorem scLSO : FnScope ["book", "absent", "found", "way", "error"] ["book", "absent"] (defScope sLSO) := ⟨rfl, rfl, rfl, by decide +kernel, rfl, by decide +kernel, by decide +kernel⟩
def spSO (K : PySem.W.Frag) (C tb : Addr) : Sp := fun vs H Q _ => ∃ S a, Fr C S H ∧ TabQ H tb qLam ∧ ((aC kBk (aC (kT kI) aN)) : Ka K C (Bk × List Int × Unit)).rps S H vs a ∧ (areGood a.1 a.2.1 = false ∧ 0 < a.1.rs.length) ∧ ∀ p H', H p = none → Same H H' → (kL (kT (kI (K := K) (C := C)))).rp S H' (.ref p) (List.replicate 3 (shortSet a.1 a.2.1)) → Q (.ref p) H'
set_option maxHeartbeats 0 in
theorem c__law_short_of (D : DefAt K mg "_law_short_of" sLSO ["book", "absent"]) (B : Bi mg) (T : BkC P w K mg base C) (TS : ShTxt K mg SB RE) (c_least_tight : CalX P w K mg base 9 "least_tight" (sp_least_tight K C SB)) (c_pair : CalX P w K mg base 10 "pair" (sp_pair K C SB)) (c_readings : CalX P w K mg base 10 "readings" (sp_readings K C SB tb)) : C8.Cal P w K mg base 11 "_law_short_of" (spSO K C tb) [] := by
  refine cal_of D scLSO (fun vs H Q E h => ?_) fun f cdv A outer s H vs Q E hr h => ?_
  · obtain ⟨S, a, _, _, h, _⟩ := h
    rw [Ka.len _ h]
    rfl
  obtain ⟨S, ⟨b, as, _⟩, fr, hT, h, ⟨hbad, hr0'⟩, q⟩ := h
  obtain ⟨w_book, _, rfl, h_book, w_absent, _, rfl, h_absent, e⟩ := h
  cases (show _ = [] from e)
  have h_book : (kBk : Kd K C _).rp S H w_book b := h_book
  have h_absent : ((kT kI) : Kd K C _).rp S H w_absent as := h_absent
  have ok := kBk.ok h_book
  have hr0' : 0 < b.rs.length := hr0'
  have hr0 : (0 : Int) < (b.rs.length : Int) := by omega
  have hn0 : (0 : Int) < (b.ds.length : Int) := by have := ok.n1; omega
  obtain ⟨l, hl⟩ : ∃ l, extB b (noRowsB b) as = .inr l := by
    have hbad : areGood b as = false := hbad
    unfold areGood at hbad
    cases e : extB b (noRowsB b) as with
    | inl g => rw [e] at hbad; cases hbad
    | inr l => exact ⟨l, rfl⟩
  have hsS : shortSet b as = l := by unfold shortSet; rw [hl]
  have q : ∀ p H', H p = none → Same H H' → (kL (kT (kI (K := K) (C := C)))).rp S H' (.ref p) (List.replicate 3 l) → Q (.ref p) H' := by rw [← hsS]; exact q
  refine ⟨_, (pss_cons (ps_set (i := 2) scLSO.nd rfl (.inl rfl) (pe_lst pa_nil))
 (pss_cons (ps_for PassesOwn.never rfl (pi_range1 rfl B.range (pa_cons pe_int pa_nil)) (pg_name (i := 3) scLSO.nd rfl (.inl rfl)) (pss_one (ps_try_as (i := 4) (tb := (fun W => tIfS (tTest (tOp rEq (tVar 3) (tC (.int 0)))) (tDrop (tCallS (sp_least_tight K C SB) W (tCons (tVar 0) (tCons (tVar 1) (tCons (tC (.int 0)) tNil))))) (tIfS (tTest (tOp rEq (tVar 3) (tC (.int 1)))) (tDrop (tCallS (sp_pair K C SB) W (tCons (tVar 0) (tCons (tVar 1) (tCons (tC (.int 0)) (tCons (tC (.int 0)) tNil)))))) (tDrop (tCallS (sp_readings K C SB tb) W (tCons (tVar 0) (tCons (tVar 1) (tCons (tC (.int 0)) tNil)))))))) (ts := (fun a cls d => tDrop (tBM K "list" rAppend (tVar 2) (tCons (tXf a cls d SB "works" (tVar 4)) tNil)))) (Wout := fun _ _ _ _ => False) rfl rfl scLSO.nd rfl rfl ⟨rfl, by decide, .inl TS.gB⟩ takes0 (fun W pn xe tk _ => pss_one (ps_if (pt_cmpR op_eq (pv 3) pe_int (nomark _)) (pss_one (ps_expr (pe_cXS c_least_tight hr (by decide) (by rfl) tk (pa_cons (pv 0) (pa_cons (pv 1) (pa_cons pe_int pa_nil)))))) (pss_one (ps_if (pt_cmpR op_eq (pv 3) pe_int (nomark _)) (pss_one (ps_expr (pe_cXS c_pair hr (by decide) (by rfl) tk (pa_cons (pv 0) (pa_cons (pv 1) (pa_cons pe_int (pa_cons pe_int pa_nil))))))) (pss_one (ps_expr (pe_cXS c_readings hr (by decide) (by rfl) tk (pa_cons (pv 0) (pa_cons (pv 1) (pa_cons pe_int pa_nil)))))))))) (fun a oe cls d pn hz hf => pss_one (ps_expr (pe_bm PySem.F.plainAttrs_list PySem.F.slot_list_append PySem.F.type_list_append mt_append (pv 2) (pa_cons (pe_xf TS.xf TS.nop hz hf (pv 4)) pa_nil)))))))
 (pss_one (ps_ret (pv 2))))), ?_⟩
  try dsimp only [cxOf, Cx.nox, Cx.wish]
  refine q_setN (K := K) (C := C) (S := S) (evn_l0 (k := (kT kI : Kd K C _)) fr) fun p H1 np0 s1 h1 => ?_
  obtain ⟨p', us0, e, npS, hp1, hP1, _⟩ := h1
  cases e
  have f1 : Fr C (p :: S) H1 := fun a m => by
    rcases List.mem_cons.mp m with rfl | m
    · exact ⟨_, hp1, trivial⟩
    · exact (fr.same s1) a m
  have l1 : Lf K C S H (p :: S) H1 := ⟨fun k v x h => k.same s1 (k.new np0 h), s1.tab⟩
  have hP1' : Paired ((kT kI : Kd K C _).rp (p :: S) H1) us0 [] := by cases hP1; exact .nil
  refine s_for (kx := (kI : Kd K C _)) (S := p :: S) (evi_rng ev_int (by decide) (by decide)) fun H2 s2 => ⟨fun i σ' H' => ∃ (y e : Option V) (us : List V), σ' = [some w_book, some w_absent, some (.ref p), y, e] ∧ Same H H' ∧ Fr C (p :: S) H' ∧ Lf K C (p :: S) H2 (p :: S) H' ∧ H' p = some (.lst us) ∧ Paired ((kT kI : Kd K C _).rp (p :: S) H') us (List.replicate i l),
    ⟨none, none, us0, rfl, s1.trans s2, f1.same s2, Lf.refl, s2 _ _ hp1, L2.Paired.mapP hP1' fun _ _ z => (kT kI).same s2 z⟩, fun i σ' H' ⟨_, _, _, _, _, _, h, _⟩ => h, ?_, ?_⟩
  · rintro i x σ' H8 v8 H9 hx ⟨y, e, us, rfl, s8, f8, l8, hp8, hP8⟩ s9 hv9
    obtain ⟨rfl, hi⟩ := iota_at hx
    have hi3 : i < 3 := hi
    cases (show v8 = .int (i : Int) from hv9)
    have sc9 := s8.trans s9
    have fr9 := f8.same s9
    have l9 := l8.trans (Lf.same s9)
    have hp9 := s9 _ _ hp8
    have hP9 : Paired ((kT kI : Kd K C _).rp (p :: S) H9) us (List.replicate i l) := L2.Paired.mapP hP8 fun _ _ z => (kT kI).same s9 z
    have hb9 := (l1.trans ((Lf.same s2).trans l9)).go (kBk : Kd K C _) _ _ h_book
    have ha9 := (l1.trans ((Lf.same s2).trans l9)).go (kT kI : Kd K C _) _ _ h_absent
    have hw9 : (kI : Kd K C _).rp (p :: S) H9 (.int (i : Int)) (i : Int) := rfl
    refine s_if (evt_test (ev_eqI (ev_var (i := 3) rfl hw9 Lf.refl) ev_int)) (fun HA hb sA => ?_) fun HA hb sA => ?_
    · replace hb9 := (kBk : Kd K C _).same sA hb9
      replace ha9 := (kT kI : Kd K C _).same sA ha9
      replace hP9 : Paired ((kT kI : Kd K C _).rp (p :: S) HA) us (List.replicate i l) := L2.Paired.mapP hP9 fun _ _ z => (kT kI).same sA z
      replace hp9 := sA _ _ hp9
      replace l9 := l9.trans (Lf.same sA)
      replace fr9 := fr9.same sA
      replace sc9 := sc9.trans sA
      refine q_dropS (K := K) (C := C) (ks := aC kBk (aC (kT kI) (aC kI aN))) (S := p :: S) (eva_cons (ev_var (i := 0) rfl hb9 Lf.refl) (eva_cons (ev_var (i := 1) rfl ha9 Lf.refl) (eva_cons ev_int eva_nil))) fun vs HV sv rv => ?_
      rw [List.append_nil]
      have s08 : Same H HV := sc9.trans sv
      refine ⟨p :: S, _, fr9.same sv, rv, fun g hg => ?_, fun l' hl' dx Hf wv sf nx hxd hwv => ?_⟩
      · have hg : extB b (noRowsB b) as = .inl g := hg
        rw [hl] at hg
        cases hg
      · have hl' : extB b (noRowsB b) as = .inr l' := hl'
        rw [hl] at hl'
        cases hl'
        have sVf := sv.trans sf
        have fpf := fr9.same sVf
        have hpf := sVf _ _ hp9
        refine ⟨true, TS.te, fun _ a na => ?_, fun q => Bool.noConfusion q⟩
        refine ⟨_, rfl, .inl ⟨rfl, _, .inl (.inl hpf)⟩, .ref a, rfl, rfl, rfl, dx, _, wv, rfl, hxd, by simp [List.lookup], ?_⟩
        refine ⟨p, us, wv, rfl, rfl, hpf, szl (by rw [pLen hP9, List.length_replicate]; omega), ?_⟩
        have sx : Sx C (p :: S) Hf (upd Hf p (.lst (us ++ [wv]))) := sx_upd fpf (by simp) trivial
        have hP1 : Paired ((kT kI : Kd K C _).rp (p :: S) (upd Hf p (.lst (us ++ [wv])))) (us ++ [wv]) (List.replicate (i + 1) l) := by
          rw [List.replicate_succ']
          exact Paired.app (L2.Paired.mapP hP9 fun _ _ z => (kT kI).sx fpf sx ((kT kI).same sVf z)) (.cons ((kT kI).sx fpf sx hwv) .nil)
        exact ⟨_, _, _, rfl, sameOwn (sc9.trans sVf) np0 (.lst hpf), sx.fr, (l9.trans (Lf.same sVf)).trans (.sx fpf sx), upd_same, hP1⟩
    · refine s_if (evt_test (ev_eqI (ev_var (i := 3) rfl (show (kI : Kd K C _).rp (p :: S) HA (.int (i : Int)) (i : Int) from rfl) Lf.refl) ev_int)) (fun HB hb2 sB => ?_) fun HB hb2 sB => ?_
      all_goals
        replace hb9 := (kBk : Kd K C _).same (sA.trans sB) hb9
        replace ha9 := (kT kI : Kd K C _).same (sA.trans sB) ha9
        replace hP9 : Paired ((kT kI : Kd K C _).rp (p :: S) HB) us (List.replicate i l) := L2.Paired.mapP hP9 fun _ _ z => (kT kI).same (sA.trans sB) z
        replace hp9 := (sA.trans sB) _ _ hp9
        replace l9 := l9.trans (Lf.same (sA.trans sB))
        replace fr9 := fr9.same (sA.trans sB)
        replace sc9 := sc9.trans (sA.trans sB)
      · refine q_dropS (K := K) (C := C) (ks := aC kBk (aC (kT kI) (aC kI (aC kI aN)))) (S := p :: S) (eva_cons (ev_var (i := 0) rfl hb9 Lf.refl) (eva_cons (ev_var (i := 1) rfl ha9 Lf.refl) (eva_cons ev_int (eva_cons ev_int eva_nil)))) fun vs HV sv rv => ?_
        rw [List.append_nil]
        have s08 : Same H HV := sc9.trans sv
        refine ⟨p :: S, _, fr9.same sv, rv, ⟨⟨Int.le_refl 0, hr0⟩, Int.le_refl 0, hn0⟩, fun g hg => ?_, fun l' hl' dx Hf wv sf nx hxd hwv => ?_⟩
        · have hg : extB b (noRowsB b) as = .inl g := hg
          rw [hl] at hg
          cases hg
        · have hl' : extB b (noRowsB b) as = .inr l' := hl'
          rw [hl] at hl'
          cases hl'
          have sVf := sv.trans sf
          have fpf := fr9.same sVf
          have hpf := sVf _ _ hp9
          refine ⟨true, TS.te, fun _ a na => ?_, fun q => Bool.noConfusion q⟩
          refine ⟨_, rfl, .inl ⟨rfl, _, .inl (.inl hpf)⟩, .ref a, rfl, rfl, rfl, dx, _, wv, rfl, hxd, by simp [List.lookup], ?_⟩
          refine ⟨p, us, wv, rfl, rfl, hpf, szl (by rw [pLen hP9, List.length_replicate]; omega), ?_⟩
          have sx : Sx C (p :: S) Hf (upd Hf p (.lst (us ++ [wv]))) := sx_upd fpf (by simp) trivial
          have hP1 : Paired ((kT kI : Kd K C _).rp (p :: S) (upd Hf p (.lst (us ++ [wv])))) (us ++ [wv]) (List.replicate (i + 1) l) := by
            rw [List.replicate_succ']
            exact Paired.app (L2.Paired.mapP hP9 fun _ _ z => (kT kI).sx fpf sx ((kT kI).same sVf z)) (.cons ((kT kI).sx fpf sx hwv) .nil)
          exact ⟨_, _, _, rfl, sameOwn (sc9.trans sVf) np0 (.lst hpf), sx.fr, (l9.trans (Lf.same sVf)).trans (.sx fpf sx), upd_same, hP1⟩
      · refine q_dropS (K := K) (C := C) (ks := aC kBk (aC (kT kI) (aC kI aN))) (S := p :: S) (eva_cons (ev_var (i := 0) rfl hb9 Lf.refl) (eva_cons (ev_var (i := 1) rfl ha9 Lf.refl) (eva_cons ev_int eva_nil))) fun vs HV sv rv => ?_
        rw [List.append_nil]
        have s08 : Same H HV := sc9.trans sv
        refine ⟨p :: S, _, fr9.same sv, (s08.tab _ _ hT), rv, ⟨Int.le_refl 0, hr0⟩, fun g hg => ?_, fun l' hl' dx Hf wv sf nx hxd hwv => ?_⟩
        · have hg : extB b (noRowsB b) as = .inl g := hg
          rw [hl] at hg
          cases hg
        · have hl' : extB b (noRowsB b) as = .inr l' := hl'
          rw [hl] at hl'
          cases hl'
          have sVf := sv.trans sf
          have fpf := fr9.same sVf
          have hpf := sVf _ _ hp9
          refine ⟨true, TS.te, fun _ a na => ?_, fun q => Bool.noConfusion q⟩
          refine ⟨_, rfl, .inl ⟨rfl, _, .inl (.inl hpf)⟩, .ref a, rfl, rfl, rfl, dx, _, wv, rfl, hxd, by simp [List.lookup], ?_⟩
          refine ⟨p, us, wv, rfl, rfl, hpf, szl (by rw [pLen hP9, List.length_replicate]; omega), ?_⟩
          have sx : Sx C (p :: S) Hf (upd Hf p (.lst (us ++ [wv]))) := sx_upd fpf (by simp) trivial
          have hP1 : Paired ((kT kI : Kd K C _).rp (p :: S) (upd Hf p (.lst (us ++ [wv])))) (us ++ [wv]) (List.replicate (i + 1) l) := by
            rw [List.replicate_succ']
            exact Paired.app (L2.Paired.mapP hP9 fun _ _ z => (kT kI).sx fpf sx ((kT kI).same sVf z)) (.cons ((kT kI).sx fpf sx hwv) .nil)
          exact ⟨_, _, _, rfl, sameOwn (sc9.trans sVf) np0 (.lst hpf), sx.fr, (l9.trans (Lf.same sVf)).trans (.sx fpf sx), upd_same, hP1⟩
  · rintro σ' HE ⟨y, e, us, rfl, sE, fE, lE, hpE, hPE⟩
    have hPE : Paired ((kT kI : Kd K C _).rp (p :: S) HE) us (List.replicate 3 l) := hPE
    refine ⟨_, rfl, q p HE np0 sE ⟨p, us, rfl, npS, hpE, L2.Paired.mapP hPE fun _ _ z => (kT kI).less (fun _ m => List.mem_cons_of_mem _ m) z, by simp⟩⟩
end
end Ew
namespace Ew
open PySem PySem.Spec PyProof.Rows L2
section
variable {K : PySem.W.Frag} {C tb : Addr} {S : List Addr} {H : Hp} {σ : L2.St} {t : TA} {b : Bk} {as : List Int}
theorem nn_L {α : Type} {k : Kd K C α} : ∀ (S : List Addr) (H : Hp) (v : V) (x : List α), (kL k).rp S H v x → v ≠ .non := fun S H v x h e => by
  obtain ⟨a, _, rfl, _⟩ := h
  cases e
theorem limP2 {p : Int → Prop} [∀ n, Decidable (p n)] (h : ∀ n ∈ List.range 5, p ((n : Int) + 2)) : ∀ l : Int, l ≤ 6 → 2 ≤ l → p l := fun l h1 h0 => by
  have := h (l - 2).toNat (List.mem_range.mpr (by omega))
  have e : (((l - 2).toNat : Nat) : Int) + 2 = l := by omega
  rwa [e] at this
theorem limA2 {p : Int → Bool} (h : ∀ n ∈ List.range 5, p ((n : Int) + 2) = true) : ∀ l : Int, l ≤ 6 → 2 ≤ l → p l = true := limP2 (p := fun l => p l = true) h
theorem evn_SO (hT : TabQ H tb qLam) (ha : EvA (aC kBk (aC (kT kI) aN) : Ka K C (Bk × List Int × Unit)) S H t σ (b, as, ())) (fr : Fr C S H) (hp : areGood b as = false ∧ 0 < b.rs.length) : EvN (kL (kT (kI (K := K) (C := C)))) S H (tCall (spSO K C tb) [] C8.E0 t) σ (List.replicate 3 (shortSet b as)) := fun H1 s Q q => ha H1 s _ fun vs H2 s2 rv => by
  show spSO K C tb (vs ++ []) H2 _ _
  rw [List.append_nil]
  exact ⟨S, _, fr.same (s.trans s2), (s.trans s2).tab _ _ hT, rv, hp, fun p H3 n s3 r3 => q p H3 (s2.free n) (s2.trans s3) r3⟩
end
section
variable {P : Program} {w : World} {K : PySem.W.Frag} {mg : Str → Option Value} {base : Heap} {C SB RE tb : Addr}
abbrev sRing : Stmt := (top 53)
def spRing (K : PySem.W.Frag) (C tb : Addr) : Sp := fun vs H Q _ => ∃ S a, Fr C S H ∧ TabQ H tb qLam ∧ (aC kI aN : Ka K C (Int × Unit)).rps S H vs a ∧ (1 ≤ a.1 ∧ a.1 ≤ 6) ∧ ∀ p (n : Nat) H', n ≤ 100 → H p = none → Same H H' → (kL (kB (K := K) (C := C))).rp S H' (.ref p) (List.replicate n true) → Q (.ref p) H'
theorem scRing : FnScope ["limit", "book", "found"] ["limit"] (defScope sRing) := ⟨rfl, rfl, rfl, by decide +kernel, rfl, by decide +kernel, by decide +kernel⟩
set_option maxHeartbeats 0 in
theorem c__law_of_a_ring (D : DefAt K mg "_law_of_a_ring" sRing ["limit"]) (B : Bi mg) (T : BkC P w K mg base C) (c_least_tight : CalX P w K mg base 9 "least_tight" (sp_least_tight K C SB)) (c_pair : CalX P w K mg base 10 "pair" (sp_pair K C SB)) (c_readings : CalX P w K mg base 10 "readings" (sp_readings K C SB tb)) (c_good_with : C8.Cal P w K mg base 8 "good_with" (sp_good_with K C) []) : CalG P w K mg base 12 "_law_of_a_ring" (spRing K C tb) := by
  refine calG_of D scRing (fun vs H Q E h => ?_) fun f cdv A outer s H vs Q E hgd hr h => ?_
  · obtain ⟨S, a, _, _, h, _⟩ := h
    rw [Ka.len _ h]
    rfl
  obtain ⟨S, ⟨lim, _⟩, fr, hT, ha, hp, q⟩ := h
  obtain ⟨w_limit, _, rfl, h_limit, e⟩ := ha
  cases (show _ = [] from e)
  obtain ⟨hl0, hl1⟩ : 1 ≤ lim ∧ lim ≤ 6 := hp
  have h_limit : (kI : Kd K C _).rp S H w_limit lim := h_limit
  refine ⟨_, (pss_cons (ps_set (i := 1) scRing.nd rfl (.inl rfl) (C8.pe_mk T.mak hr (by decide) (by rfl) (pa_cons (pe_lst (pa_cons pe_int (pa_cons pe_int (pa_cons pe_int (pa_cons pe_int pa_nil))))) (pa_cons (pe_lst (pa_cons (pe_tup (pa_cons pe_int (pa_cons (pe_tup (pa_cons pe_int (pa_cons pe_int pa_nil))) pa_nil))) (pa_cons (pe_tup (pa_cons pe_int (pa_cons (pe_tup (pa_cons pe_int (pa_cons pe_int pa_nil))) pa_nil))) (pa_cons (pe_tup (pa_cons pe_int (pa_cons (pe_tup (pa_cons pe_int (pa_cons pe_int pa_nil))) pa_nil))) (pa_cons (pe_tup (pa_cons (pv 0) (pa_cons (pe_tup (pa_cons pe_int (pa_cons pe_int pa_nil))) pa_nil))) pa_nil))))) pa_nil))))
 (pss_cons (ps_set (i := 2) scRing.nd rfl (.inl rfl) (pe_lst (pa_cons (pe_cmpR (op_eqD hr.units) (pe_cX c_least_tight hr (by decide) (by rfl) passF (pa_cons (pv 1) (pa_cons (pe_tup pa_nil) (pa_cons pe_int pa_nil)))) (pe_tup (pa_cons pe_int pa_nil)) (nomark _)) (pa_cons (pe_cmpR (op_eqD hr.units) (pe_cX c_pair hr (by decide) (by rfl) passF (pa_cons (pv 1) (pa_cons (pe_tup pa_nil) (pa_cons pe_int (pa_cons pe_int pa_nil))))) (pe_tup (pa_cons pe_bl (pa_cons pe_bl pa_nil))) (nomark _)) pa_nil))))
 (pss_cons (ps_expr (pe_bm PySem.F.plainAttrs_list PySem.F.slot_list_append PySem.F.type_list_append mt_append (pv 2) (pa_cons (pe_cmpR op_eq (pe_callB (call_repr hgd hr.units) (by rfl) B.repr (by decide +kernel) (pa_cons (pe_cX c_least_tight hr (by decide) (by rfl) passF (pa_cons (pv 1) (pa_cons (pe_tup pa_nil) (pa_cons pe_int pa_nil)))) pa_nil)) (pe_callB (call_repr hgd hr.units) (by rfl) B.repr (by decide +kernel) (pa_cons (pe_ifExp (pt_cmpR op_gt (pv 0) pe_int (nomark _)) pe_non (pe_tup (pa_cons pe_int (pa_cons pe_int (pa_cons pe_int (pa_cons pe_int pa_nil)))))) pa_nil)) (nomark _)) pa_nil)))
 (pss_cons (ps_set (i := 2) scRing.nd rfl (.inl rfl) (pe_op op_cat (pv 2) (pe_lst (pa_cons (pe_cmpR (op_eqD hr.units) (pe_cX c_pair hr (by decide) (by rfl) passF (pa_cons (pv 1) (pa_cons (pe_tup pa_nil) (pa_cons pe_int (pa_cons pe_int pa_nil))))) (pe_tup (pa_cons pe_bl (pa_cons pe_bl pa_nil))) (nomark _)) (pa_cons (pe_cmpR (op_eqD hr.units) (pe_cX c_pair hr (by decide) (by rfl) passF (pa_cons (pv 1) (pa_cons (pe_tup pa_nil) (pa_cons pe_int (pa_cons pe_int pa_nil))))) (pe_tup (pa_cons pe_bl (pa_cons pe_bl pa_nil))) (nomark _)) pa_nil)))))
 (pss_cons (ps_set (i := 2) scRing.nd rfl (.inl rfl) (pe_op op_cat (pv 2) (pe_lst (pa_cons (pe_cmpR (op_eqD hr.units) (pe_cX c_pair hr (by decide) (by rfl) passF (pa_cons (pv 1) (pa_cons (pe_tup pa_nil) (pa_cons pe_int (pa_cons pe_int pa_nil))))) (pe_tup (pa_cons (pe_cmpR op_gt (pv 0) pe_int (nomark _)) (pa_cons pe_bl pa_nil))) (nomark _)) (pa_cons (pe_cmpR (op_eqD hr.units) (pe_cX c_readings hr (by decide) (by rfl) passF (pa_cons (pv 1) (pa_cons (pe_tup pa_nil) (pa_cons pe_int pa_nil)))) (pe_tup (pa_cons pe_int (pa_cons (pe_callB (call_min2 rfl) (by rfl) B.min (by decide +kernel) (pa_cons pe_int (pa_cons (pv 0) pa_nil))) pa_nil))) (nomark _)) pa_nil)))))
 (pss_cons (ps_expr (pe_bm PySem.F.plainAttrs_list PySem.F.slot_list_append PySem.F.type_list_append mt_append (pv 2) (pa_cons (pe_cmpR (op_eqD hr.units) (pe_cX c_readings hr (by decide) (by rfl) passF (pa_cons (pv 1) (pa_cons (pe_tup pa_nil) (pa_cons pe_int pa_nil)))) (pe_tup (pa_cons (pe_ifExp (pt_cmpR op_gt (pv 0) pe_int (nomark _)) pe_int pe_int) (pa_cons pe_int pa_nil))) (nomark _)) pa_nil)))
 (pss_cons (ps_if (pt_cmpR op_gt (pv 0) pe_int (nomark _)) (pss_one (ps_expr (pe_bm PySem.F.plainAttrs_list PySem.F.slot_list_append PySem.F.type_list_append mt_append (pv 2) (pa_cons (pe_cmpR (op_eqD hr.units) (pe_cX c_least_tight hr (by decide) (by rfl) passF (pa_cons (pv 1) (pa_cons (pe_tup (pa_cons pe_int pa_nil)) (pa_cons pe_int pa_nil)))) (pe_tup (pa_cons pe_int pa_nil)) (nomark _)) pa_nil)))) pss_nil)
 (pss_cons (ps_set (i := 1) scRing.nd rfl (.inl rfl) (C8.pe_mk T.mak hr (by decide) (by rfl) (pa_cons (pe_lst (pa_cons pe_int (pa_cons pe_int (pa_cons pe_int (pa_cons pe_int pa_nil))))) (pa_cons (pe_lst (pa_cons (pe_tup (pa_cons pe_int (pa_cons (pe_tup (pa_cons pe_int (pa_cons pe_int pa_nil))) pa_nil))) (pa_cons (pe_tup (pa_cons pe_int (pa_cons (pe_tup (pa_cons pe_int (pa_cons pe_int pa_nil))) pa_nil))) (pa_cons (pe_tup (pa_cons pe_int (pa_cons (pe_tup (pa_cons pe_int (pa_cons pe_int (pa_cons pe_int pa_nil)))) pa_nil))) pa_nil)))) pa_nil))))
 (pss_cons (ps_set (i := 2) scRing.nd rfl (.inl rfl) (pe_op op_cat (pv 2) (pe_lst (pa_cons (pe_cmpR (op_eqD hr.units) (pe_cX c_least_tight hr (by decide) (by rfl) passF (pa_cons (pv 1) (pa_cons (pe_tup pa_nil) (pa_cons pe_int pa_nil)))) (pe_tup (pa_cons pe_int (pa_cons pe_int (pa_cons pe_int pa_nil)))) (nomark _)) (pa_cons (pe_cmpR (op_eqD hr.units) (pe_cX c_least_tight hr (by decide) (by rfl) passF (pa_cons (pv 1) (pa_cons (pe_tup pa_nil) (pa_cons pe_int pa_nil)))) (pe_tup (pa_cons pe_int (pa_cons pe_int (pa_cons pe_int (pa_cons pe_int pa_nil))))) (nomark _)) pa_nil)))))
 (pss_cons (ps_set (i := 2) scRing.nd rfl (.inl rfl) (pe_op op_cat (pv 2) (pe_lst (pa_cons (pe_cmpR (op_eqD hr.units) (pe_cX c_pair hr (by decide) (by rfl) passF (pa_cons (pv 1) (pa_cons (pe_tup pa_nil) (pa_cons pe_int (pa_cons pe_int pa_nil))))) (pe_tup (pa_cons pe_bl (pa_cons pe_bl pa_nil))) (nomark _)) (pa_cons (pe_cmpR op_isN (C8.pe_c c_good_with hr (by decide) (by rfl) (pa_cons (pv 1) (pa_cons (pe_tup pa_nil) (pa_cons pe_int (pa_cons (pe_tup (pa_cons pe_int pa_nil)) pa_nil))))) pe_non (nomark _)) pa_nil)))))
 (pss_one (ps_ret (pe_op op_cat (pv 2) (pe_lst (pa_cons (pe_cmpR (op_eqD hr.units) (C8.pe_c c_good_with hr (by decide) (by rfl) (pa_cons (pv 1) (pa_cons (pe_tup pa_nil) (pa_cons pe_int (pa_cons (pe_tup (pa_cons pe_int pa_nil)) pa_nil))))) (pe_lst (pa_cons (pe_tup (pa_cons pe_int pa_nil)) (pa_cons (pe_tup (pa_cons pe_int pa_nil)) (pa_cons (pe_tup (pa_cons pe_int pa_nil)) pa_nil)))) (nomark _)) (pa_cons (pe_cmpR op_isN (C8.pe_c c_good_with hr (by decide) (by rfl) (pa_cons (pv 1) (pa_cons (pe_tup pa_nil) (pa_cons pe_int (pa_cons (pe_tup pa_nil) pa_nil))))) pe_non (nomark _)) pa_nil)))))))))))))))), ?_⟩
  try dsimp only [cxOf, Cx.nox, Cx.wish]
  refine q_setN (K := K) (C := C) (S := S) (evn_mkBk (EvN.ev (evn_lst (evl_cons ev_int (evl_cons ev_int (evl_cons ev_int (evl_cons ev_int evl_nil)))) fr)) (EvN.ev (evn_lst (evl_cons (ev_t2 ev_int (ev_tupD (evl_cons ev_int (evl_cons ev_int evl_nil)))) (evl_cons (ev_t2 ev_int (ev_tupD (evl_cons ev_int (evl_cons ev_int evl_nil)))) (evl_cons (ev_t2 ev_int (ev_tupD (evl_cons ev_int (evl_cons ev_int evl_nil)))) (evl_cons (ev_t2 (ev_var rfl h_limit Lf.refl) (ev_tupD (evl_cons ev_int (evl_cons ev_int evl_nil)))) evl_nil)))) fr)) fr (dsOk_B (by first | decide +kernel | (revert hl0 hl1; generalize lim = l; revert l; exact limA (by decide +kernel))))) fun p1 H1 n1 s1 h1 => ?_
  have fr1 := (fr).same s1
  have sc1 : Same H H1 := (Same.refl H).trans s1
  refine q_own (K := K) (C := C) (S := S) (evn_lst (evl_cons (Ev.to (x' := true) (ev_eqD pOT (ev_leastD (o := (some [3])) (eva_cons (ev_var rfl h1 Lf.refl) (eva_cons (ev_t0 (k := (kI : Kd K C _))) (eva_cons ev_int eva_nil))) fr1 (by first | decide +kernel | (revert hl0 hl1; generalize lim = l; revert l; exact limP (by decide +kernel)))) (ev_some (ev_tupD (evl_cons ev_int evl_nil)))) (by first | decide +kernel | (revert hl0 hl1; generalize lim = l; revert l; exact limA (by decide +kernel)))) (evl_cons (Ev.to (x' := true) (ev_eqD (pP pB pB) (ev_pairD (eva_cons (ev_var rfl h1 Lf.refl) (eva_cons (ev_t0 (k := (kI : Kd K C _))) (eva_cons ev_int (eva_cons ev_int eva_nil)))) fr1 (by first | decide +kernel | (revert hl0 hl1; generalize lim = l; revert l; exact limP (by decide +kernel)))) (ev_t2 ev_bl ev_bl)) (by first | decide +kernel | (revert hl0 hl1; generalize lim = l; revert l; exact limA (by decide +kernel)))) evl_nil)) fr1) fr1 fun p2 H2 n2 s2 fr2 l2 hp2 => ?_
  have m2 : H p2 = none := sc1.free n2
  have sc2 : Same H H2 := sc1.trans s2
  refine q_app (K := K) (C := C) (S := (p2 :: S)) rfl hp2 (by simp) fr2 (Ev.to (x' := true) (ev_eqS (ev_reprO (ev_leastD (o := (if decide (lim > 1) = true then none else (some [0, 1, 2, 3]))) (eva_cons (ev_var rfl h1 l2) (eva_cons (ev_t0 (k := (kI : Kd K C _))) (eva_cons ev_int eva_nil))) fr2 (by first | decide +kernel | (revert hl0 hl1; generalize lim = l; revert l; exact limP (by decide +kernel)))) (by intro l h; (try split at h) <;> cases h <;> exact ⟨by decide, by intro z hz; simp at hz; unfold Dig; omega⟩)) (ev_reprO (ev_if (evt_test (ev_B2 (ev_var rfl h_limit (Lf.trans (Lf.same s1) l2)) ev_int)) (fun _ => ev_none) (fun _ => (ev_some (ev_tupD (evl_cons ev_int (evl_cons ev_int (evl_cons ev_int (evl_cons ev_int evl_nil)))))))) (by intro l h; (try split at h) <;> cases h <;> exact ⟨by decide, by intro z hz; simp at hz; unfold Dig; omega⟩))) (by first | decide +kernel | (revert hl0 hl1; generalize lim = l; revert l; exact limA (by decide +kernel)))) (by simp) fun H3 fr3 l3 k3 hp3 => ?_
  have sc3 : Same H H3 := k3 _ sc2 m2
  refine q_own (K := K) (C := C) (S := (p2 :: S)) (evn_catO rfl hp3 (EvN.ev (evn_lst (evl_cons (Ev.to (x' := true) (ev_eqD (pP pB pB) (ev_pairD (eva_cons (ev_var rfl h1 (Lf.trans l2 l3)) (eva_cons (ev_t0 (k := (kI : Kd K C _))) (eva_cons ev_int (eva_cons ev_int eva_nil)))) fr3 (by first | decide +kernel | (revert hl0 hl1; generalize lim = l; revert l; exact limP (by decide +kernel)))) (ev_t2 ev_bl ev_bl)) (by first | decide +kernel | (revert hl0 hl1; generalize lim = l; revert l; exact limA (by decide +kernel)))) (evl_cons (Ev.to (x' := true) (ev_eqD (pP pB pB) (ev_pairD (eva_cons (ev_var rfl h1 (Lf.trans l2 l3)) (eva_cons (ev_t0 (k := (kI : Kd K C _))) (eva_cons ev_int (eva_cons ev_int eva_nil)))) fr3 (by first | decide +kernel | (revert hl0 hl1; generalize lim = l; revert l; exact limP (by decide +kernel)))) (ev_t2 ev_bl ev_bl)) (by first | decide +kernel | (revert hl0 hl1; generalize lim = l; revert l; exact limA (by decide +kernel)))) evl_nil)) fr3)) fr3 (by simp)) fr3 fun p4 H4 n4 s4 fr4 l4 hp4 => ?_
  have m4 : H p4 = none := sc3.free n4
  have sc4 : Same H H4 := sc3.trans s4
  refine q_own (K := K) (C := C) (S := (p4 :: (p2 :: S))) (evn_catO rfl hp4 (EvN.ev (evn_lst (evl_cons (Ev.to (x' := true) (ev_eqD (pP pB pB) (ev_pairD (eva_cons (ev_var rfl h1 (Lf.trans l2 (Lf.trans l3 l4))) (eva_cons (ev_t0 (k := (kI : Kd K C _))) (eva_cons ev_int (eva_cons ev_int eva_nil)))) fr4 (by first | decide +kernel | (revert hl0 hl1; generalize lim = l; revert l; exact limP (by decide +kernel)))) (ev_t2 (ev_B2 (ev_var rfl h_limit (Lf.trans (Lf.same s1) (Lf.trans l2 (Lf.trans l3 l4)))) ev_int) ev_bl)) (by first | decide +kernel | (revert hl0 hl1; generalize lim = l; revert l; exact limA (by decide +kernel)))) (evl_cons (Ev.to (x' := true) (ev_eqD (pP pI pI) (ev_readsD (sc4.tab _ _ hT) (eva_cons (ev_var rfl h1 (Lf.trans l2 (Lf.trans l3 l4))) (eva_cons (ev_t0 (k := (kI : Kd K C _))) (eva_cons ev_int eva_nil))) fr4 (by first | decide +kernel | (revert hl0 hl1; generalize lim = l; revert l; exact limP (by decide +kernel)))) (ev_t2 ev_int (ev_mm ev_int (ev_var rfl h_limit (Lf.trans (Lf.same s1) (Lf.trans l2 (Lf.trans l3 l4))))))) (by first | decide +kernel | (revert hl0 hl1; generalize lim = l; revert l; exact limA (by decide +kernel)))) evl_nil)) fr4)) fr4 (by simp)) fr4 fun p5 H5 n5 s5 fr5 l5 hp5 => ?_
  have m5 : H p5 = none := sc4.free n5
  have sc5 : Same H H5 := sc4.trans s5
  refine q_app (K := K) (C := C) (S := (p5 :: (p4 :: (p2 :: S)))) rfl hp5 (by simp) fr5 (Ev.to (x' := true) (ev_eqD (pP pI pI) (ev_readsD (sc5.tab _ _ hT) (eva_cons (ev_var rfl h1 (Lf.trans l2 (Lf.trans l3 (Lf.trans l4 l5)))) (eva_cons (ev_t0 (k := (kI : Kd K C _))) (eva_cons ev_int eva_nil))) fr5 (by first | decide +kernel | (revert hl0 hl1; generalize lim = l; revert l; exact limP (by decide +kernel)))) (ev_t2 (ev_if (evt_test (ev_B2 (ev_var rfl h_limit (Lf.trans (Lf.same s1) (Lf.trans l2 (Lf.trans l3 (Lf.trans l4 l5))))) ev_int)) (fun _ => ev_int) (fun _ => ev_int)) ev_int)) (by first | decide +kernel | (revert hl0 hl1; generalize lim = l; revert l; exact limA (by decide +kernel)))) (by simp) fun H6 fr6 l6 k6 hp6 => ?_
  have sc6 : Same H H6 := k6 _ sc5 m5
  refine q_if (evt_test (ev_B2 (ev_var rfl h_limit (Lf.trans (Lf.same s1) (Lf.trans l2 (Lf.trans l3 (Lf.trans l4 (Lf.trans l5 l6)))))) ev_int)) (fun H7 hb7 s7 => ?_) fun H7 hb7 s7 => ?_
  · have fr7 := (fr6).same s7
    have sc7 : Same H H7 := sc6.trans s7
    have hp7 := s7 _ _ hp6
    have hl2 : 2 ≤ lim := by simp at hb7; omega
    refine s_app (K := K) (C := C) (S := (p5 :: (p4 :: (p2 :: S)))) rfl hp7 (by simp) fr7 (Ev.to (x' := true) (ev_eqD pOT (ev_leastD (o := (some [0])) (eva_cons (ev_var rfl h1 (Lf.trans l2 (Lf.trans l3 (Lf.trans l4 (Lf.trans l5 (Lf.trans l6 (Lf.same s7))))))) (eva_cons (ev_tupD (evl_cons ev_int evl_nil)) (eva_cons ev_int eva_nil))) fr7 (by first | decide +kernel | (revert hl2 hl1; generalize lim = l; revert l; exact limP2 (by decide +kernel)))) (ev_some (ev_tupD (evl_cons ev_int evl_nil)))) (by first | decide +kernel | (revert hl2 hl1; generalize lim = l; revert l; exact limA2 (by decide +kernel)))) (by simp) fun H8 fr8 l8 k8 hp8 => ?_
    have sc8 : Same H H8 := k8 _ sc7 m5
    try dsimp only
    refine q_setN (K := K) (C := C) (S := (p5 :: (p4 :: (p2 :: S)))) (evn_mkBk (EvN.ev (evn_lst (evl_cons ev_int (evl_cons ev_int (evl_cons ev_int (evl_cons ev_int evl_nil)))) fr8)) (EvN.ev (evn_lst (evl_cons (ev_t2 ev_int (ev_tupD (evl_cons ev_int (evl_cons ev_int evl_nil)))) (evl_cons (ev_t2 ev_int (ev_tupD (evl_cons ev_int (evl_cons ev_int evl_nil)))) (evl_cons (ev_t2 ev_int (ev_tupD (evl_cons ev_int (evl_cons ev_int (evl_cons ev_int evl_nil))))) evl_nil))) fr8)) fr8 (dsOk_B (by first | decide +kernel | (revert hl0 hl1; generalize lim = l; revert l; exact limA (by decide +kernel))))) fun p9 H9 n9 s9 h9 => ?_
    have fr9 := (fr8).same s9
    have sc9 : Same H H9 := sc8.trans s9
    have hp9 := s9 _ _ hp8
    refine q_own (K := K) (C := C) (S := (p5 :: (p4 :: (p2 :: S)))) (evn_catO rfl hp9 (EvN.ev (evn_lst (evl_cons (Ev.to (x' := true) (ev_eqD pOT (ev_leastD (o := (some [0, 1, 2])) (eva_cons (ev_var rfl h9 Lf.refl) (eva_cons (ev_t0 (k := (kI : Kd K C _))) (eva_cons ev_int eva_nil))) fr9 (by first | decide +kernel | (revert hl0 hl1; generalize lim = l; revert l; exact limP (by decide +kernel)))) (ev_some (ev_tupD (evl_cons ev_int (evl_cons ev_int (evl_cons ev_int evl_nil)))))) (by first | decide +kernel | (revert hl0 hl1; generalize lim = l; revert l; exact limA (by decide +kernel)))) (evl_cons (Ev.to (x' := true) (ev_eqD pOT (ev_leastD (o := (some [0, 1, 2, 3])) (eva_cons (ev_var rfl h9 Lf.refl) (eva_cons (ev_t0 (k := (kI : Kd K C _))) (eva_cons ev_int eva_nil))) fr9 (by first | decide +kernel | (revert hl0 hl1; generalize lim = l; revert l; exact limP (by decide +kernel)))) (ev_some (ev_tupD (evl_cons ev_int (evl_cons ev_int (evl_cons ev_int (evl_cons ev_int evl_nil))))))) (by first | decide +kernel | (revert hl0 hl1; generalize lim = l; revert l; exact limA (by decide +kernel)))) evl_nil)) fr9)) fr9 (by simp)) fr9 fun p10 H10 n10 s10 fr10 l10 hp10 => ?_
    have m10 : H p10 = none := sc9.free n10
    have sc10 : Same H H10 := sc9.trans s10
    refine q_own (K := K) (C := C) (S := (p10 :: (p5 :: (p4 :: (p2 :: S))))) (evn_catO rfl hp10 (EvN.ev (evn_lst (evl_cons (Ev.to (x' := true) (ev_eqD (pP pB pB) (ev_pairD (eva_cons (ev_var rfl h9 l10) (eva_cons (ev_t0 (k := (kI : Kd K C _))) (eva_cons ev_int (eva_cons ev_int eva_nil)))) fr10 (by first | decide +kernel | (revert hl0 hl1; generalize lim = l; revert l; exact limP (by decide +kernel)))) (ev_t2 ev_bl ev_bl)) (by first | decide +kernel | (revert hl0 hl1; generalize lim = l; revert l; exact limA (by decide +kernel)))) (evl_cons (Ev.to (x' := true) (ev_isN (ev_gwithD (eva_cons (ev_var rfl h9 l10) (eva_cons (ev_t0 (k := (kI : Kd K C _))) (eva_cons ev_int (eva_cons (ev_tupD (evl_cons ev_int evl_nil)) eva_nil)))) fr10 (by first | decide +kernel | (revert hl0 hl1; generalize lim = l; revert l; exact limP (by decide +kernel)))) nn_L) (by first | decide +kernel | (revert hl0 hl1; generalize lim = l; revert l; exact limA (by decide +kernel)))) evl_nil)) fr10)) fr10 (by simp)) fr10 fun p11 H11 n11 s11 fr11 l11 hp11 => ?_
    have m11 : H p11 = none := sc10.free n11
    have sc11 : Same H H11 := sc10.trans s11
    exact s_retN (K := K) (C := C) (S := (p11 :: (p10 :: (p5 :: (p4 :: (p2 :: S)))))) (EvN.to (x' := List.replicate 15 true) (evn_catO rfl hp11 (EvN.ev (evn_lst (evl_cons (Ev.to (x' := true) (ev_eqD pOWs (ev_gwithD (eva_cons (ev_var rfl h9 (Lf.trans l10 l11)) (eva_cons (ev_t0 (k := (kI : Kd K C _))) (eva_cons ev_int (eva_cons (ev_tupD (evl_cons ev_int evl_nil)) eva_nil)))) fr11 (by first | decide +kernel | (revert hl0 hl1; generalize lim = l; revert l; exact limP (by decide +kernel)))) (ev_some (EvN.ev (evn_lst (evl_cons (ev_tupD (evl_cons ev_int evl_nil)) (evl_cons (ev_tupD (evl_cons ev_int evl_nil)) (evl_cons (ev_tupD (evl_cons ev_int evl_nil)) evl_nil))) fr11)))) (by first | decide +kernel | (revert hl0 hl1; generalize lim = l; revert l; exact limA (by decide +kernel)))) (evl_cons (Ev.to (x' := true) (ev_isN (ev_gwithD (eva_cons (ev_var rfl h9 (Lf.trans l10 l11)) (eva_cons (ev_t0 (k := (kI : Kd K C _))) (eva_cons ev_int (eva_cons (ev_t0 (k := (kI : Kd K C _))) eva_nil)))) fr11 (by first | decide +kernel | (revert hl0 hl1; generalize lim = l; revert l; exact limP (by decide +kernel)))) nn_L) (by first | decide +kernel | (revert hl0 hl1; generalize lim = l; revert l; exact limA (by decide +kernel)))) evl_nil)) fr11)) fr11 (by simp)) rfl) fun p H' n s r => q p 15 H' (by decide) (sc11.free n) (sc11.trans s) ((kL kB : Kd K C _).less (fun a m => by simp [m]) r)
  · have fr7 := (fr6).same s7
    have sc7 : Same H H7 := sc6.trans s7
    have hp7 := s7 _ _ hp6
    refine q_setN (K := K) (C := C) (S := (p5 :: (p4 :: (p2 :: S)))) (evn_mkBk (EvN.ev (evn_lst (evl_cons ev_int (evl_cons ev_int (evl_cons ev_int (evl_cons ev_int evl_nil)))) fr7)) (EvN.ev (evn_lst (evl_cons (ev_t2 ev_int (ev_tupD (evl_cons ev_int (evl_cons ev_int evl_nil)))) (evl_cons (ev_t2 ev_int (ev_tupD (evl_cons ev_int (evl_cons ev_int evl_nil)))) (evl_cons (ev_t2 ev_int (ev_tupD (evl_cons ev_int (evl_cons ev_int (evl_cons ev_int evl_nil))))) evl_nil))) fr7)) fr7 (dsOk_B (by first | decide +kernel | (revert hl0 hl1; generalize lim = l; revert l; exact limA (by decide +kernel))))) fun p13 H13 n13 s13 h13 => ?_
    have fr13 := (fr7).same s13
    have sc13 : Same H H13 := sc7.trans s13
    have hp13 := s13 _ _ hp7
    refine q_own (K := K) (C := C) (S := (p5 :: (p4 :: (p2 :: S)))) (evn_catO rfl hp13 (EvN.ev (evn_lst (evl_cons (Ev.to (x' := true) (ev_eqD pOT (ev_leastD (o := (some [0, 1, 2])) (eva_cons (ev_var rfl h13 Lf.refl) (eva_cons (ev_t0 (k := (kI : Kd K C _))) (eva_cons ev_int eva_nil))) fr13 (by first | decide +kernel | (revert hl0 hl1; generalize lim = l; revert l; exact limP (by decide +kernel)))) (ev_some (ev_tupD (evl_cons ev_int (evl_cons ev_int (evl_cons ev_int evl_nil)))))) (by first | decide +kernel | (revert hl0 hl1; generalize lim = l; revert l; exact limA (by decide +kernel)))) (evl_cons (Ev.to (x' := true) (ev_eqD pOT (ev_leastD (o := (some [0, 1, 2, 3])) (eva_cons (ev_var rfl h13 Lf.refl) (eva_cons (ev_t0 (k := (kI : Kd K C _))) (eva_cons ev_int eva_nil))) fr13 (by first | decide +kernel | (revert hl0 hl1; generalize lim = l; revert l; exact limP (by decide +kernel)))) (ev_some (ev_tupD (evl_cons ev_int (evl_cons ev_int (evl_cons ev_int (evl_cons ev_int evl_nil))))))) (by first | decide +kernel | (revert hl0 hl1; generalize lim = l; revert l; exact limA (by decide +kernel)))) evl_nil)) fr13)) fr13 (by simp)) fr13 fun p14 H14 n14 s14 fr14 l14 hp14 => ?_
    have m14 : H p14 = none := sc13.free n14
    have sc14 : Same H H14 := sc13.trans s14
    refine q_own (K := K) (C := C) (S := (p14 :: (p5 :: (p4 :: (p2 :: S))))) (evn_catO rfl hp14 (EvN.ev (evn_lst (evl_cons (Ev.to (x' := true) (ev_eqD (pP pB pB) (ev_pairD (eva_cons (ev_var rfl h13 l14) (eva_cons (ev_t0 (k := (kI : Kd K C _))) (eva_cons ev_int (eva_cons ev_int eva_nil)))) fr14 (by first | decide +kernel | (revert hl0 hl1; generalize lim = l; revert l; exact limP (by decide +kernel)))) (ev_t2 ev_bl ev_bl)) (by first | decide +kernel | (revert hl0 hl1; generalize lim = l; revert l; exact limA (by decide +kernel)))) (evl_cons (Ev.to (x' := true) (ev_isN (ev_gwithD (eva_cons (ev_var rfl h13 l14) (eva_cons (ev_t0 (k := (kI : Kd K C _))) (eva_cons ev_int (eva_cons (ev_tupD (evl_cons ev_int evl_nil)) eva_nil)))) fr14 (by first | decide +kernel | (revert hl0 hl1; generalize lim = l; revert l; exact limP (by decide +kernel)))) nn_L) (by first | decide +kernel | (revert hl0 hl1; generalize lim = l; revert l; exact limA (by decide +kernel)))) evl_nil)) fr14)) fr14 (by simp)) fr14 fun p15 H15 n15 s15 fr15 l15 hp15 => ?_
    have m15 : H p15 = none := sc14.free n15
    have sc15 : Same H H15 := sc14.trans s15
    exact s_retN (K := K) (C := C) (S := (p15 :: (p14 :: (p5 :: (p4 :: (p2 :: S)))))) (EvN.to (x' := List.replicate 14 true) (evn_catO rfl hp15 (EvN.ev (evn_lst (evl_cons (Ev.to (x' := true) (ev_eqD pOWs (ev_gwithD (eva_cons (ev_var rfl h13 (Lf.trans l14 l15)) (eva_cons (ev_t0 (k := (kI : Kd K C _))) (eva_cons ev_int (eva_cons (ev_tupD (evl_cons ev_int evl_nil)) eva_nil)))) fr15 (by first | decide +kernel | (revert hl0 hl1; generalize lim = l; revert l; exact limP (by decide +kernel)))) (ev_some (EvN.ev (evn_lst (evl_cons (ev_tupD (evl_cons ev_int evl_nil)) (evl_cons (ev_tupD (evl_cons ev_int evl_nil)) (evl_cons (ev_tupD (evl_cons ev_int evl_nil)) evl_nil))) fr15)))) (by first | decide +kernel | (revert hl0 hl1; generalize lim = l; revert l; exact limA (by decide +kernel)))) (evl_cons (Ev.to (x' := true) (ev_isN (ev_gwithD (eva_cons (ev_var rfl h13 (Lf.trans l14 l15)) (eva_cons (ev_t0 (k := (kI : Kd K C _))) (eva_cons ev_int (eva_cons (ev_t0 (k := (kI : Kd K C _))) eva_nil)))) fr15 (by first | decide +kernel | (revert hl0 hl1; generalize lim = l; revert l; exact limP (by decide +kernel)))) nn_L) (by first | decide +kernel | (revert hl0 hl1; generalize lim = l; revert l; exact limA (by decide +kernel)))) evl_nil)) fr15)) fr15 (by simp)) rfl) fun p H' n s r => q p 14 H' (by decide) (sc15.free n) (sc15.trans s) ((kL kB : Kd K C _).less (fun a m => by simp [m]) r)

abbrev sShorts : Stmt := (top 54)
def spShorts (K : PySem.W.Frag) (C tb : Addr) : Sp := fun vs H Q _ => ∃ S a, Fr C S H ∧ TabQ H tb qLam ∧ (aC kI aN : Ka K C (Int × Unit)).rps S H vs a ∧ (1 ≤ a.1 ∧ a.1 ≤ 6) ∧ ∀ p (n : Nat) H', n ≤ 100 → H p = none → Same H H' → (kL (kB (K := K) (C := C))).rp S H' (.ref p) (List.replicate n true) → Q (.ref p) H'
theorem scShorts : FnScope ["limit", "book", "found", "told", "one"] ["limit"] (defScope sShorts) := ⟨rfl, rfl, rfl, by decide +kernel, rfl, by decide +kernel, by decide +kernel⟩
set_option maxHeartbeats 0 in
theorem c__law_of_short_ones (D : DefAt K mg "_law_of_short_ones" sShorts ["limit"]) (B : Bi mg) (T : BkC P w K mg base C) (c_least_tight : CalX P w K mg base 9 "least_tight" (sp_least_tight K C SB)) (c_pair : CalX P w K mg base 10 "pair" (sp_pair K C SB)) (c_readings : CalX P w K mg base 10 "readings" (sp_readings K C SB tb)) (c_good_with : C8.Cal P w K mg base 8 "good_with" (sp_good_with K C) []) (c_good_rows : C8.Cal P w K mg base 7 "good_rows" (sp_good_rows K C) []) (c__law_short_of : C8.Cal P w K mg base 11 "_law_short_of" (spSO K C tb) []) : C8.Cal P w K mg base 12 "_law_of_short_ones" (spShorts K C tb) [] := by
  refine cal_of D scShorts (fun vs H Q E h => ?_) fun f cdv A outer s H vs Q E hr h => ?_
  · obtain ⟨S, a, _, _, h, _⟩ := h
    rw [Ka.len _ h]
    rfl
  obtain ⟨S, ⟨lim, _⟩, fr, hT, ha, hp, q⟩ := h
  obtain ⟨w_limit, _, rfl, h_limit, e⟩ := ha
  cases (show _ = [] from e)
  obtain ⟨hl0, hl1⟩ : 1 ≤ lim ∧ lim ≤ 6 := hp
  have h_limit : (kI : Kd K C _).rp S H w_limit lim := h_limit
  refine ⟨_, (pss_cons (ps_set (i := 1) scShorts.nd rfl (.inl rfl) (C8.pe_mk T.mak hr (by decide) (by rfl) (pa_cons (pe_lst (pa_cons pe_int (pa_cons pe_int pa_nil))) (pa_cons (pe_lst (pa_cons (pe_tup (pa_cons (pv 0) (pa_cons (pe_tup (pa_cons pe_int pa_nil)) pa_nil))) (pa_cons (pe_tup (pa_cons pe_int (pa_cons (pe_tup (pa_cons pe_int (pa_cons pe_int pa_nil))) pa_nil))) pa_nil))) pa_nil))))
 (pss_cons (ps_set (i := 2) scShorts.nd rfl (.inl rfl) (pe_lst (pa_cons (pe_cmpR (op_eqD hr.units) (C8.pe_c c_good_rows hr (by decide) (by rfl) (pa_cons (pv 1) (pa_cons (pe_tup pa_nil) pa_nil))) (pe_tup (pa_cons pe_str (pa_cons (pe_tup (pa_cons pe_int (pa_cons pe_int pa_nil))) pa_nil))) (nomark _)) (pa_cons (pe_cmpR (op_eqD hr.units) (C8.pe_c c__law_short_of hr (by decide) (by rfl) (pa_cons (pv 1) (pa_cons (pe_tup pa_nil) pa_nil))) (pe_op op_rep (pe_lst (pa_cons (pe_tup (pa_cons pe_int (pa_cons pe_int pa_nil))) pa_nil)) pe_int) (nomark _)) pa_nil))))
 (pss_cons (ps_expr (pe_bm PySem.F.plainAttrs_list PySem.F.slot_list_append PySem.F.type_list_append mt_append (pv 2) (pa_cons (pe_cmpR op_isN (C8.pe_c c_good_with hr (by decide) (by rfl) (pa_cons (pv 1) (pa_cons (pe_tup pa_nil) (pa_cons pe_int (pa_cons (pe_tup (pa_cons pe_int pa_nil)) pa_nil))))) pe_non (nomark _)) pa_nil)))
 (pss_cons (ps_set (i := 1) scShorts.nd rfl (.inl rfl) (C8.pe_mk T.mak hr (by decide) (by rfl) (pa_cons (pe_lst (pa_cons pe_int (pa_cons pe_int pa_nil))) (pa_cons (pe_lst (pa_cons (pe_tup (pa_cons (pv 0) (pa_cons (pe_tup (pa_cons pe_int pa_nil)) pa_nil))) (pa_cons (pe_tup (pa_cons pe_int (pa_cons (pe_tup (pa_cons pe_int (pa_cons pe_int pa_nil))) pa_nil))) (pa_cons (pe_tup (pa_cons pe_int (pa_cons (pe_tup (pa_cons pe_int pa_nil)) pa_nil))) pa_nil)))) pa_nil))))
 (pss_cons (ps_set (i := 2) scShorts.nd rfl (.inl rfl) (pe_op op_cat (pv 2) (pe_lst (pa_cons (pe_cmpR (op_eqD hr.units) (pe_cX c_pair hr (by decide) (by rfl) passF (pa_cons (pv 1) (pa_cons (pe_tup (pa_cons pe_int pa_nil)) (pa_cons pe_int (pa_cons pe_int pa_nil))))) (pe_tup (pa_cons pe_bl (pa_cons pe_bl pa_nil))) (nomark _)) (pa_cons (pe_cmpR (op_eqD hr.units) (pe_cX c_readings hr (by decide) (by rfl) passF (pa_cons (pv 1) (pa_cons (pe_tup (pa_cons pe_int pa_nil)) (pa_cons pe_int pa_nil)))) (pe_tup (pa_cons pe_int (pa_cons pe_int pa_nil))) (nomark _)) pa_nil)))))
 (pss_cons (ps_set (i := 2) scShorts.nd rfl (.inl rfl) (pe_op op_cat (pv 2) (pe_lst (pa_cons (pe_cmpR (op_eqD hr.units) (pe_cX c_readings hr (by decide) (by rfl) passF (pa_cons (pv 1) (pa_cons (pe_tup pa_nil) (pa_cons pe_int pa_nil)))) (pe_tup (pa_cons pe_int (pa_cons pe_int pa_nil))) (nomark _)) (pa_cons (pe_cmpR (op_eqD hr.units) (C8.pe_c c_good_rows hr (by decide) (by rfl) (pa_cons (pv 1) (pa_cons (pe_tup (pa_cons pe_int pa_nil)) pa_nil))) (pe_tup (pa_cons pe_str (pa_cons (pe_lst (pa_cons (pe_tup (pa_cons pe_int pa_nil)) (pa_cons (pe_tup pa_nil) (pa_cons (pe_tup (pa_cons pe_int pa_nil)) pa_nil)))) pa_nil))) (nomark _)) pa_nil)))))
 (pss_cons (ps_set (i := 3) scShorts.nd rfl (.inl rfl) (C8.pe_c c__law_short_of hr (by decide) (by rfl) (pa_cons (pv 1) (pa_cons (pe_tup (pa_cons pe_int (pa_cons pe_int pa_nil))) pa_nil))))
 (pss_cons (ps_expr (pe_bm PySem.F.plainAttrs_list PySem.F.slot_list_append PySem.F.type_list_append mt_append (pv 2) (pa_cons (pe_and (pe_cmpR op_eq (pe_callB call_len_seq (by rfl) B.len PySem.boot_len (pa_cons (pv 3) pa_nil)) pe_int (nomark _)) (pe_one (pe_cmpR (op_eqNil (Nat.lt_of_le_of_lt (Nat.le_add_right _ 64) hr.units)) (pe_lc (own := [("one", 4)]) (g := (gName 4)) (tt := (tTest (tOp (rNotInD K) (tVar 4) (tLst (tCons (tTup (tCons (tC (.int 1)) tNil)) (tCons (tTup (tCons (tC (.int 0)) (tCons (tC (.int 1)) tNil))) tNil)))))) (te := (tVar 4)) rfl scShorts.nd (pi_list (pv 3)) (blkOk_by (own := [("one", 4)]) (N := ["limit", "book", "found", "told", "one"]) (sc := defScope sShorts) (by decide +kernel)) (fun _ _ _ _ _ => (pg_name (i := 4) scShorts.nd rfl (.inl rfl))) (fun _ _ _ _ _ => pts_one (pt_cmpR (op_notInD (units65 hr)) (pv 4) (pe_lst (pa_cons (pe_tup (pa_cons pe_int pa_nil)) (pa_cons (pe_tup (pa_cons pe_int (pa_cons pe_int pa_nil))) pa_nil))) (by rfl))) (fun _ _ _ _ _ => (pv 4))) (pe_lst pa_nil) (nomark _)))) pa_nil)))
 (pss_cons (ps_set (i := 1) scShorts.nd rfl (.inl rfl) (C8.pe_mk T.mak hr (by decide) (by rfl) (pa_cons (pe_lst (pa_cons pe_int (pa_cons pe_int pa_nil))) (pa_cons (pe_lst (pa_cons (pe_tup (pa_cons (pv 0) (pa_cons (pe_tup (pa_cons pe_int (pa_cons pe_int pa_nil))) pa_nil))) (pa_cons (pe_tup (pa_cons pe_int (pa_cons (pe_tup pa_nil) pa_nil))) pa_nil))) pa_nil))))
 (pss_cons (ps_set (i := 2) scShorts.nd rfl (.inl rfl) (pe_op op_cat (pv 2) (pe_lst (pa_cons (pe_cmpR (op_eqD hr.units) (C8.pe_c c_good_rows hr (by decide) (by rfl) (pa_cons (pv 1) (pa_cons (pe_tup pa_nil) pa_nil))) (pe_tup (pa_cons pe_str (pa_cons (pe_lst (pa_cons (pe_tup pa_nil) (pa_cons (pe_tup pa_nil) pa_nil))) pa_nil))) (nomark _)) (pa_cons (pe_cmpR (op_eqD hr.units) (pe_cX c_readings hr (by decide) (by rfl) passF (pa_cons (pv 1) (pa_cons (pe_tup pa_nil) (pa_cons pe_int pa_nil)))) (pe_tup (pa_cons pe_int (pa_cons pe_int pa_nil))) (nomark _)) pa_nil)))))
 (pss_cons (ps_set (i := 2) scShorts.nd rfl (.inl rfl) (pe_op op_cat (pv 2) (pe_lst (pa_cons (pe_cmpR (op_eqD hr.units) (pe_cX c_pair hr (by decide) (by rfl) passF (pa_cons (pv 1) (pa_cons (pe_tup pa_nil) (pa_cons pe_int (pa_cons pe_int pa_nil))))) (pe_tup (pa_cons pe_bl (pa_cons pe_bl pa_nil))) (nomark _)) (pa_cons (pe_cmpR op_isN (pe_cX c_least_tight hr (by decide) (by rfl) passF (pa_cons (pv 1) (pa_cons (pe_tup pa_nil) (pa_cons pe_int pa_nil)))) pe_non (nomark _)) pa_nil)))))
 (pss_one (ps_ret (pe_op op_cat (pv 2) (pe_lst (pa_cons (pe_cmpR (op_eqD hr.units) (C8.pe_c c_good_with hr (by decide) (by rfl) (pa_cons (pv 1) (pa_cons (pe_tup pa_nil) (pa_cons pe_int (pa_cons (pe_tup pa_nil) pa_nil))))) (pe_lst (pa_cons (pe_tup pa_nil) (pa_cons (pe_tup pa_nil) pa_nil))) (nomark _)) (pa_cons (pe_cmpR (op_eqD hr.units) (pe_cX c_least_tight hr (by decide) (by rfl) passF (pa_cons (pv 1) (pa_cons (pe_tup (pa_cons pe_int pa_nil)) (pa_cons pe_int pa_nil)))) (pe_tup (pa_cons pe_int pa_nil)) (nomark _)) pa_nil))))))))))))))))), ?_⟩
  try dsimp only [cxOf, Cx.nox, Cx.wish]
  refine q_setN (K := K) (C := C) (S := S) (evn_mkBk (EvN.ev (evn_lst (evl_cons ev_int (evl_cons ev_int evl_nil)) fr)) (EvN.ev (evn_lst (evl_cons (ev_t2 (ev_var rfl h_limit Lf.refl) (ev_tupD (evl_cons ev_int evl_nil))) (evl_cons (ev_t2 ev_int (ev_tupD (evl_cons ev_int (evl_cons ev_int evl_nil)))) evl_nil)) fr)) fr (dsOk_B (by first | decide +kernel | (revert hl0 hl1; generalize lim = l; revert l; exact limA (by decide +kernel))))) fun p1 H1 n1 s1 h1 => ?_
  have fr1 := (fr).same s1
  have sc1 : Same H H1 := (Same.refl H).trans s1
  refine q_own (K := K) (C := C) (S := S) (evn_lst (evl_cons (Ev.to (x' := true) (ev_eqD pExt (ev_good (eva_cons (ev_var rfl h1 Lf.refl) (eva_cons (ev_t0 (k := (kI : Kd K C _))) eva_nil)) fr1) (ev_tWr (ev_tupD (evl_cons ev_int (evl_cons ev_int evl_nil))))) (by first | decide +kernel | (revert hl0 hl1; generalize lim = l; revert l; exact limA (by decide +kernel)))) (evl_cons (Ev.to (x' := true) (ev_eqD (pL (pT pI)) (EvN.ev (evn_SO (sc1.tab _ _ hT) (eva_cons (ev_var rfl h1 Lf.refl) (eva_cons (ev_t0 (k := (kI : Kd K C _))) eva_nil)) fr1 (by first | decide +kernel | (revert hl0 hl1; generalize lim = l; revert l; exact limP (by decide +kernel))))) (EvN.ev (evn_rep (ev_tupD (evl_cons ev_int (evl_cons ev_int evl_nil))) ev_int fr1 (by decide) (by decide)))) (by first | decide +kernel | (revert hl0 hl1; generalize lim = l; revert l; exact limA (by decide +kernel)))) evl_nil)) fr1) fr1 fun p2 H2 n2 s2 fr2 l2 hp2 => ?_
  have m2 : H p2 = none := sc1.free n2
  have sc2 : Same H H2 := sc1.trans s2
  refine q_app (K := K) (C := C) (S := (p2 :: S)) rfl hp2 (by simp) fr2 (Ev.to (x' := true) (ev_isN (ev_gwithD (eva_cons (ev_var rfl h1 l2) (eva_cons (ev_t0 (k := (kI : Kd K C _))) (eva_cons ev_int (eva_cons (ev_tupD (evl_cons ev_int evl_nil)) eva_nil)))) fr2 (by first | decide +kernel | (revert hl0 hl1; generalize lim = l; revert l; exact limP (by decide +kernel)))) nn_L) (by first | decide +kernel | (revert hl0 hl1; generalize lim = l; revert l; exact limA (by decide +kernel)))) (by simp) fun H3 fr3 l3 k3 hp3 => ?_
  have sc3 : Same H H3 := k3 _ sc2 m2
  refine q_setN (K := K) (C := C) (S := (p2 :: S)) (evn_mkBk (EvN.ev (evn_lst (evl_cons ev_int (evl_cons ev_int evl_nil)) fr3)) (EvN.ev (evn_lst (evl_cons (ev_t2 (ev_var rfl h_limit (Lf.trans (Lf.same s1) (Lf.trans l2 l3))) (ev_tupD (evl_cons ev_int evl_nil))) (evl_cons (ev_t2 ev_int (ev_tupD (evl_cons ev_int (evl_cons ev_int evl_nil)))) (evl_cons (ev_t2 ev_int (ev_tupD (evl_cons ev_int evl_nil))) evl_nil))) fr3)) fr3 (dsOk_B (by first | decide +kernel | (revert hl0 hl1; generalize lim = l; revert l; exact limA (by decide +kernel))))) fun p4 H4 n4 s4 h4 => ?_
  have fr4 := (fr3).same s4
  have sc4 : Same H H4 := sc3.trans s4
  have hp4 := s4 _ _ hp3
  refine q_own (K := K) (C := C) (S := (p2 :: S)) (evn_catO rfl hp4 (EvN.ev (evn_lst (evl_cons (Ev.to (x' := true) (ev_eqD (pP pB pB) (ev_pairD (eva_cons (ev_var rfl h4 Lf.refl) (eva_cons (ev_tupD (evl_cons ev_int evl_nil)) (eva_cons ev_int (eva_cons ev_int eva_nil)))) fr4 (by first | decide +kernel | (revert hl0 hl1; generalize lim = l; revert l; exact limP (by decide +kernel)))) (ev_t2 ev_bl ev_bl)) (by first | decide +kernel | (revert hl0 hl1; generalize lim = l; revert l; exact limA (by decide +kernel)))) (evl_cons (Ev.to (x' := true) (ev_eqD (pP pI pI) (ev_readsD (sc4.tab _ _ hT) (eva_cons (ev_var rfl h4 Lf.refl) (eva_cons (ev_tupD (evl_cons ev_int evl_nil)) (eva_cons ev_int eva_nil))) fr4 (by first | decide +kernel | (revert hl0 hl1; generalize lim = l; revert l; exact limP (by decide +kernel)))) (ev_t2 ev_int ev_int)) (by first | decide +kernel | (revert hl0 hl1; generalize lim = l; revert l; exact limA (by decide +kernel)))) evl_nil)) fr4)) fr4 (by simp)) fr4 fun p5 H5 n5 s5 fr5 l5 hp5 => ?_
  have m5 : H p5 = none := sc4.free n5
  have sc5 : Same H H5 := sc4.trans s5
  refine q_own (K := K) (C := C) (S := (p5 :: (p2 :: S))) (evn_catO rfl hp5 (EvN.ev (evn_lst (evl_cons (Ev.to (x' := true) (ev_eqD (pP pI pI) (ev_readsD (sc5.tab _ _ hT) (eva_cons (ev_var rfl h4 l5) (eva_cons (ev_t0 (k := (kI : Kd K C _))) (eva_cons ev_int eva_nil))) fr5 (by first | decide +kernel | (revert hl0 hl1; generalize lim = l; revert l; exact limP (by decide +kernel)))) (ev_t2 ev_int ev_int)) (by first | decide +kernel | (revert hl0 hl1; generalize lim = l; revert l; exact limA (by decide +kernel)))) (evl_cons (Ev.to (x' := true) (ev_eqD pExt (ev_good (eva_cons (ev_var rfl h4 l5) (eva_cons (ev_tupD (evl_cons ev_int evl_nil)) eva_nil)) fr5) (ev_tWl (EvN.ev (evn_lst (evl_cons (ev_tupD (evl_cons ev_int evl_nil)) (evl_cons (ev_t0 (k := (kI : Kd K C _))) (evl_cons (ev_tupD (evl_cons ev_int evl_nil)) evl_nil))) fr5)))) (by first | decide +kernel | (revert hl0 hl1; generalize lim = l; revert l; exact limA (by decide +kernel)))) evl_nil)) fr5)) fr5 (by simp)) fr5 fun p6 H6 n6 s6 fr6 l6 hp6 => ?_
  have m6 : H p6 = none := sc5.free n6
  have sc6 : Same H H6 := sc5.trans s6
  refine q_setN (K := K) (C := C) (S := (p6 :: (p5 :: (p2 :: S)))) (evn_SO (sc6.tab _ _ hT) (eva_cons (ev_var rfl h4 (Lf.trans l5 l6)) (eva_cons (ev_tupD (evl_cons ev_int (evl_cons ev_int evl_nil))) eva_nil)) fr6 (by first | decide +kernel | (revert hl0 hl1; generalize lim = l; revert l; exact limP (by decide +kernel)))) fun p7 H7 n7 s7 h7 => ?_
  have h7 : (kL (kT kI) : Kd K C _).rp (p6 :: (p5 :: (p2 :: S))) H7 (.ref p7) (List.replicate 3 (shortSet _ _)) := h7
  have fr7 := (fr6).same s7
  have sc7 : Same H H7 := sc6.trans s7
  have hp7 := s7 _ _ hp6
  refine q_app (K := K) (C := C) (S := (p6 :: (p5 :: (p2 :: S)))) rfl hp7 (by simp) fr7 (Ev.to (x' := true) (ev_andV (ev_eqI (ev_len (ev_var rfl h7 Lf.refl) IsSq.l) ev_int) (fun _ => (ev_eqNil (EvN.ev (evn_lc fr7 (evi_list (ev_var rfl h7 Lf.refl)) (by first | decide | simp) (fun y1 hy1 D1 v1 H1 l1 f1 hv1 => lcb_name rfl (evt_test (ev_ninD (pT pI) (ev_var rfl hv1 Lf.refl) (EvN.ev (evn_lst (evl_cons (ev_tupD (evl_cons ev_int evl_nil)) (evl_cons (ev_tupD (evl_cons ev_int (evl_cons ev_int evl_nil))) evl_nil)) f1)))) (fun ht1 => (ev_var rfl hv1 Lf.refl))))) fr7))) (by first | decide +kernel | (revert hl0 hl1; generalize lim = l; revert l; exact limA (by decide +kernel)))) (by simp) fun H8 fr8 l8 k8 hp8 => ?_
  have sc8 : Same H H8 := k8 _ sc7 m6
  refine q_setN (K := K) (C := C) (S := (p6 :: (p5 :: (p2 :: S)))) (evn_mkBk (EvN.ev (evn_lst (evl_cons ev_int (evl_cons ev_int evl_nil)) fr8)) (EvN.ev (evn_lst (evl_cons (ev_t2 (ev_var rfl h_limit (Lf.trans (Lf.same s1) (Lf.trans l2 (Lf.trans l3 (Lf.trans (Lf.same s4) (Lf.trans l5 (Lf.trans l6 (Lf.trans (Lf.same s7) l8)))))))) (ev_tupD (evl_cons ev_int (evl_cons ev_int evl_nil)))) (evl_cons (ev_t2 ev_int (ev_t0 (k := (kI : Kd K C _)))) evl_nil)) fr8)) fr8 (dsOk_B (by first | decide +kernel | (revert hl0 hl1; generalize lim = l; revert l; exact limA (by decide +kernel))))) fun p9 H9 n9 s9 h9 => ?_
  have fr9 := (fr8).same s9
  have sc9 : Same H H9 := sc8.trans s9
  have hp9 := s9 _ _ hp8
  refine q_own (K := K) (C := C) (S := (p6 :: (p5 :: (p2 :: S)))) (evn_catO rfl hp9 (EvN.ev (evn_lst (evl_cons (Ev.to (x' := true) (ev_eqD pExt (ev_good (eva_cons (ev_var rfl h9 Lf.refl) (eva_cons (ev_t0 (k := (kI : Kd K C _))) eva_nil)) fr9) (ev_tWl (EvN.ev (evn_lst (evl_cons (ev_t0 (k := (kI : Kd K C _))) (evl_cons (ev_t0 (k := (kI : Kd K C _))) evl_nil)) fr9)))) (by first | decide +kernel | (revert hl0 hl1; generalize lim = l; revert l; exact limA (by decide +kernel)))) (evl_cons (Ev.to (x' := true) (ev_eqD (pP pI pI) (ev_readsD (sc9.tab _ _ hT) (eva_cons (ev_var rfl h9 Lf.refl) (eva_cons (ev_t0 (k := (kI : Kd K C _))) (eva_cons ev_int eva_nil))) fr9 (by first | decide +kernel | (revert hl0 hl1; generalize lim = l; revert l; exact limP (by decide +kernel)))) (ev_t2 ev_int ev_int)) (by first | decide +kernel | (revert hl0 hl1; generalize lim = l; revert l; exact limA (by decide +kernel)))) evl_nil)) fr9)) fr9 (by simp)) fr9 fun p10 H10 n10 s10 fr10 l10 hp10 => ?_
  have m10 : H p10 = none := sc9.free n10
  have sc10 : Same H H10 := sc9.trans s10
  refine q_own (K := K) (C := C) (S := (p10 :: (p6 :: (p5 :: (p2 :: S))))) (evn_catO rfl hp10 (EvN.ev (evn_lst (evl_cons (Ev.to (x' := true) (ev_eqD (pP pB pB) (ev_pairD (eva_cons (ev_var rfl h9 l10) (eva_cons (ev_t0 (k := (kI : Kd K C _))) (eva_cons ev_int (eva_cons ev_int eva_nil)))) fr10 (by first | decide +kernel | (revert hl0 hl1; generalize lim = l; revert l; exact limP (by decide +kernel)))) (ev_t2 ev_bl ev_bl)) (by first | decide +kernel | (revert hl0 hl1; generalize lim = l; revert l; exact limA (by decide +kernel)))) (evl_cons (Ev.to (x' := true) (ev_isN (ev_leastD (o := none) (eva_cons (ev_var rfl h9 l10) (eva_cons (ev_t0 (k := (kI : Kd K C _))) (eva_cons ev_int eva_nil))) fr10 (by first | decide +kernel | (revert hl0 hl1; generalize lim = l; revert l; exact limP (by decide +kernel)))) nn_T) (by first | decide +kernel | (revert hl0 hl1; generalize lim = l; revert l; exact limA (by decide +kernel)))) evl_nil)) fr10)) fr10 (by simp)) fr10 fun p11 H11 n11 s11 fr11 l11 hp11 => ?_
  have m11 : H p11 = none := sc10.free n11
  have sc11 : Same H H11 := sc10.trans s11
  exact s_retN (K := K) (C := C) (S := (p11 :: (p10 :: (p6 :: (p5 :: (p2 :: S)))))) (EvN.to (x' := List.replicate 14 true) (evn_catO rfl hp11 (EvN.ev (evn_lst (evl_cons (Ev.to (x' := true) (ev_eqD pOWs (ev_gwithD (eva_cons (ev_var rfl h9 (Lf.trans l10 l11)) (eva_cons (ev_t0 (k := (kI : Kd K C _))) (eva_cons ev_int (eva_cons (ev_t0 (k := (kI : Kd K C _))) eva_nil)))) fr11 (by first | decide +kernel | (revert hl0 hl1; generalize lim = l; revert l; exact limP (by decide +kernel)))) (ev_some (EvN.ev (evn_lst (evl_cons (ev_t0 (k := (kI : Kd K C _))) (evl_cons (ev_t0 (k := (kI : Kd K C _))) evl_nil)) fr11)))) (by first | decide +kernel | (revert hl0 hl1; generalize lim = l; revert l; exact limA (by decide +kernel)))) (evl_cons (Ev.to (x' := true) (ev_eqD pOT (ev_leastD (o := (some [1])) (eva_cons (ev_var rfl h9 (Lf.trans l10 l11)) (eva_cons (ev_tupD (evl_cons ev_int evl_nil)) (eva_cons ev_int eva_nil))) fr11 (by first | decide +kernel | (revert hl0 hl1; generalize lim = l; revert l; exact limP (by decide +kernel)))) (ev_some (ev_tupD (evl_cons ev_int evl_nil)))) (by first | decide +kernel | (revert hl0 hl1; generalize lim = l; revert l; exact limA (by decide +kernel)))) evl_nil)) fr11)) fr11 (by simp)) rfl) fun p H' n s r => q p 14 H' (by decide) (sc11.free n) (sc11.trans s) ((kL kB : Kd K C _).less (fun a m => by simp [m]) r)
end
end Ew
namespace Ew
open PySem PySem.Spec PyProof.Rows L2
/-- answers that are all True -/
def kTr {K : PySem.W.Frag} {C : Addr} (m : Nat) : Kd K C Unit where
  rp S H v _ := ∃ n ≤ m, (kL (kB (K := K) (C := C))).rp S H v (List.replicate n true)
  same s := fun ⟨n, h, r⟩ => ⟨n, h, (kL kB : Kd K C _).same s r⟩
  sx f s := fun ⟨n, h, r⟩ => ⟨n, h, (kL kB : Kd K C _).sx f s r⟩
  new hn := fun ⟨n, h, r⟩ => ⟨n, h, (kL kB : Kd K C _).new hn r⟩
  less m := fun ⟨n, h, r⟩ => ⟨n, h, (kL kB : Kd K C _).less m r⟩
section
variable {K : PySem.W.Frag} {C tb : Addr} {S : List Addr} {H : Hp} {σ : L2.St} {t : TA} {ta te : TE} {l : Int}
theorem ev_ring (hT : TabQ H tb qLam) (ha : EvA (aC kI aN : Ka K C (Int × Unit)) S H t σ (l, ())) (fr : Fr C S H) (hp : 1 ≤ l ∧ l ≤ 6) : Ev (K := K) (C := C) (kTr 100) S H (tCall (spRing K C tb) [] C8.E0 t) σ () := fun H1 s Q q => ha H1 s _ fun vs H2 s2 rv => by
  show spRing K C tb (vs ++ []) H2 _ _
  rw [List.append_nil]
  exact ⟨S, _, fr.same (s.trans s2), (s.trans s2).tab _ _ hT, rv, hp, fun p n H3 hn np s3 r3 => q _ H3 (s2.trans s3) ⟨n, hn, r3⟩⟩
theorem ev_shorts (hT : TabQ H tb qLam) (ha : EvA (aC kI aN : Ka K C (Int × Unit)) S H t σ (l, ())) (fr : Fr C S H) (hp : 1 ≤ l ∧ l ≤ 6) : Ev (K := K) (C := C) (kTr 100) S H (tCall (spShorts K C tb) [] C8.E0 t) σ () := fun H1 s Q q => ha H1 s _ fun vs H2 s2 rv => by
  show spShorts K C tb (vs ++ []) H2 _ _
  rw [List.append_nil]
  exact ⟨S, _, fr.same (s.trans s2), (s.trans s2).tab _ _ hT, rv, hp, fun p n H3 hn np s3 r3 => q _ H3 (s2.trans s3) ⟨n, hn, r3⟩⟩
theorem ev_catTr {m n : Nat} (h : Ev (K := K) (C := C) (kTr m) S H ta σ ()) (g : Ev (K := K) (C := C) (kTr n) S H te σ ()) (fr : Fr C S H) (hm : m + n ≤ 1000) : Ev (K := K) (C := C) (kTr (m + n)) S H (tOp rCat ta te) σ () := fun H1 s Q q => h H1 s _ fun v H2 s2 r => g H2 (s.trans s2) _ fun w H3 s3 r3 => by
  obtain ⟨i, hi, r⟩ := r
  obtain ⟨j, hj, r3⟩ := r3
  have e1 : Ev (kL (kB (K := K) (C := C))) S H3 (tK v) σ (List.replicate i true) := ev_tK ((kL kB : Kd K C _).same s3 r)
  have e2 : Ev (kL (kB (K := K) (C := C))) S H3 (tK w) σ (List.replicate j true) := ev_tK r3
  exact (evn_catL e1 e2 (fr.same (s.trans (s2.trans s3))) (by rw [List.length_replicate, List.length_replicate]; omega)).use fun p H4 n4 s4 r4 => q _ H4 (s2.trans (s3.trans s4)) ⟨i + j, by omega, by rw [← List.replicate_append_replicate]; exact r4⟩
theorem all_tr {i m : Nat} {v : V} (e : σ[i]? = some (some v)) (h : (kTr m : Kd K C _).rp S H v ()) (fr : Fr C S H) (hm : m ≤ 1000) {vs : List Nat} (hg : ∀ v, wipe ((wipe σ vs).set 4 (some v)) vs = wipe σ vs) (hv : ∀ v : V, ((wipe σ vs).set 4 (some v))[4]? = some (some v)) :
    Ev (K := K) (C := C) kB S H (tOp (rNeNil K false) (tLc (iList K (tVar i)) (gName 4) (tTest (tOp rNotB (tVar 4) (tC (.bl true)))) (tVar 4) vs) (tLst tNil)) σ true := by
  obtain ⟨n, hn, r⟩ := h
  exact Ev.to (ev_eqNil (EvN.ev (evn_lc fr (evi_list (ev_var e r Lf.refl)) (by rw [List.length_replicate]; omega) (fun y1 hy1 D1 v1 H1 l1 f1 hv1 => lcb_name (hg _) (evt_test (ev_notB (ev_var (hv _) hv1 Lf.refl))) (fun ht1 => (ev_var (hv _) hv1 Lf.refl))))) fr) (by simp)
end
structure TopR (P : Program) (w : World) (K : PySem.W.Frag) (mg : Str → Option Value) (base : Heap) (C SB tb : Addr) : Prop where
  bi : Bi mg
  bk : BkC P w K mg base C
  c_law_feed : C8.Cal P w K mg base 1 "_law_feed" (spFeed K) []
  c_law_take : C8.Cal P w K mg base 1 "_law_take" spTake []
  c_law_of_a_ring : CalG P w K mg base 12 "_law_of_a_ring" (spRing K C tb)
  c_law_of_short_ones : C8.Cal P w K mg base 12 "_law_of_short_ones" (spShorts K C tb) []
section
variable {P : Program} {w : World} {K : PySem.W.Frag} {mg : Str → Option Value} {base : Heap} {C SB tb : Addr}
theorem scLaw : FnScope ["script", "feed", "limit", "found", "thing"] ["script"] (defScope sLaw) := ⟨rfl, rfl, rfl, by decide +kernel, rfl, by decide +kernel, by decide +kernel⟩
set_option maxHeartbeats 0 in
theorem ok_law {f : Addr} {fd : FuncData} (F : Fun K "law" "law" sLaw f fd) (TT : TopR P w K mg base C SB tb) : FnOkG P w K mg base 13 f fd ["script"] (spLawT K tb) := by
  obtain ⟨B, T, c__law_feed, c__law_take, c__law_of_a_ring, c__law_of_short_ones⟩ := TT
  refine okG F scLaw (fun vs H Q E h => ?_) (fun cdv A0 outer s H vs Q E hgd hr h => ?_)
  · obtain ⟨a, ns, rfl, _⟩ := h
    rfl
  obtain ⟨a, ns, rfl, hT, hS, hlen, q⟩ := h
  refine ⟨_, (pss_cons (ps_set (i := 1) scLaw.nd rfl (.inl rfl) (C8.pe_c c__law_feed hr (by decide) (by rfl) (pa_cons (pv 0) (pa_cons pe_int pa_nil))))
 (pss_cons (ps_set (i := 2) scLaw.nd rfl (.inl rfl) (pe_op op_add pe_int (C8.pe_c c__law_take hr (by decide) (by rfl) (pa_cons (pv 1) (pa_cons pe_int pa_nil)))))
 (pss_cons (ps_set (i := 3) scLaw.nd rfl (.inl rfl) (pe_op op_cat (pe_cG c__law_of_a_ring hgd hr (by decide) (by rfl) (pa_cons (pv 2) pa_nil)) (C8.pe_c c__law_of_short_ones hr (by decide) (by rfl) (pa_cons (pv 2) pa_nil))))
 (pss_one (ps_ret (pe_cmpR (op_eqNil (Nat.lt_of_le_of_lt (Nat.le_add_right _ 64) hr.units)) (pe_lc (own := [("thing", 4)]) (g := (gName 4)) (tt := (tTest (tOp rNotB (tVar 4) (tC (.bl true))))) (te := (tVar 4)) rfl scLaw.nd (pi_list (pv 3)) (blkOk_by (own := [("thing", 4)]) (N := ["script", "feed", "limit", "found", "thing"]) (sc := defScope sLaw) (by decide +kernel)) (fun _ _ _ _ _ => (pg_name (i := 4) scLaw.nd rfl (.inl rfl))) (fun _ _ _ _ _ => pts_one (pt_cmpR op_notBl (pv 4) pe_bl (nomark _))) (fun _ _ _ _ _ => (pv 4))) (pe_lst pa_nil) (nomark _))))))), ?_⟩
  try dsimp only [cxOf, Cx.nox, Cx.wish]
  refine q_feedE (K := K) (C := C) rfl ev_int hS hlen (by decide) (by decide) fun f H2 s2 nf hf => ?_
  refine q_setF (K := K) (C := C) (evf_add (evf_take (i := 1) rfl hf ev_int (by decide) (by decide))) fun wl H3 lim e3 h_limit hlim => ?_
  obtain ⟨y, ⟨y0, y1⟩, rfl⟩ := hlim
  have hT3 : TabQ H3 tb qLam := e3.tab _ qLam (s2.tab _ qLam hT)
  have fr3 : Fr C [f] H3 := fr_feed e3.feed
  refine q_set (K := K) (C := C) (S := [f]) (ev_catTr (ev_ring hT3 (eva_cons (ev_var (i := 2) rfl h_limit Lf.refl) eva_nil) fr3 ⟨by omega, by omega⟩) (ev_shorts hT3 (eva_cons (ev_var (i := 2) rfl h_limit Lf.refl) eva_nil) fr3 ⟨by omega, by omega⟩) fr3 (by decide)) fun wf H4 s4 h4 => ?_
  refine s_ret (K := K) (C := C) (S := [f]) (all_tr (i := 3) rfl h4 (fr3.same s4) (by decide) (fun _ => rfl) (fun _ => rfl)) fun v H5 s5 r5 => ?_
  cases (show v = .bl true from r5)
  exact q H5
end
end Ew
/-! The end of a law whose program makes one lambda. -/
namespace Ew
open PySem PySem.Spec PyProof.Rows L2
/-- ahead of the law's call: the script, where it is no object of the module's, and the lambda's table -/
def only2 (u : Option (Obj × List V)) (a tb : Addr) : Hp := fun b => if b = tb then some (.tbl #[]) else if b = a then u.map fun p => .frz p.1 (.lst p.2) else none
section
variable {u : Option (Obj × List V)} {a tb b : Addr}
theorem only2_tb : only2 u a tb tb = some (.tbl #[]) := if_pos rfl
theorem only2_a (h : a ≠ tb) : only2 u a tb a = u.map fun p => .frz p.1 (.lst p.2) := by
  unfold only2
  rw [if_neg h, if_pos rfl]
theorem only2_no (h1 : b ≠ tb) (h2 : b ≠ a) : only2 u a tb b = none := by
  unfold only2
  rw [if_neg h1, if_neg h2]
theorem only2_is {o : HO} (h : only2 u a tb b = some o) : (b = tb ∧ o = .tbl #[]) ∨ (b = a ∧ ∃ p, u = some p ∧ o = .frz p.1 (.lst p.2)) := by
  unfold only2 at h
  by_cases h1 : b = tb
  · rw [if_pos h1] at h
    exact .inl ⟨h1, (Option.some.inj h).symm⟩
  · rw [if_neg h1] at h
    by_cases h2 : b = a
    · rw [if_pos h2] at h
      cases u with
      | none => cases h
      | some p => exact .inr ⟨h2, p, rfl, (Option.some.inj h).symm⟩
    · rw [if_neg h2] at h
      cases h
end
section
variable {P : Program} {w : World} {K : PySem.W.Frag} {mg mb : Str → Option Value} {k : Nat} {fa a cg tb : Addr} {fd : FuncData} {x : Str} {sp : Sp} {s₁ : Shared} {vs : List Value} {ns : List Int}
theorem call_from3 {u : Option (Obj × List V)} (KX : K.In s₁.heap) (hns : s₁.heap.Ns mainGlobals mg) (hb : s₁.heap.Ns builtinsNs mb) (hbb : ∀ x : Str, x ≠ "__name__" → mb x = bootBuiltins x) (hlim : s₁.heap.NoLimit) (hg : s₁.gens = #[])
    (bmain : ∃ bm ob, mg "__builtins__" = some (.ref bm) ∧ bm ≠ builtinsNs ∧ s₁.heap.get? bm = some ob ∧ ob.cls = .type "module" ∧ ob.dict = some builtinsNs ∧ ob.data = .plain)
    (hT : s₁.heap.get? tb = some { cls := .none, data := .fields #[] }) (hC : PySem.W.CodeHd s₁.heap cg tb) (noK : K.lookup tb = none) (neA : a ≠ tb)
    (hr : Room k callerA) (F : ∀ base : Heap, K.In base → base.Ns mainGlobals mg → LamX.TabB base mg cg tb → FnOkG P w K mg base k fa fd [x] sp) (hbind : ∀ (s : Shared) (u : Value), BindsTo s fd ⟨[u], []⟩ [(x, u)])
    (ha : s₁.heap.get? a = some { cls := .type "list", data := .seq vs.toArray }) (hsp : sp [.ref a] (only2 u a tb) (fun v _ => v = .bl true) fun _ _ _ => False) (hok : HOk P w (only2 u a tb) s₁.heap) (keptA : u ≠ none → K.lookup a = none) :
    codeAny (model P w) callerA (.call (.ref fa) ⟨[.ref a], []⟩) (fun r s' => r = .ok (.ret (.bool true)) ∧ OldK s₁.heap s'.heap ∧ s'.os = s₁.os ∧ AllBare s'.gens) s₁ := by
  -- an object that is neither a sequence nor an empty table is not tracked
  have free : ∀ {b : Addr} {o : Obj}, s₁.heap.get? b = some o → (∀ l n, o.data ≠ .seq l n) → o.data ≠ .fields #[] → only2 u a tb b = none := fun {b o} e h1 h2 => by
    refine only2_no (fun z => ?_) fun z => ?_
    · subst z
      rw [hT] at e
      cases e
      exact h2 rfl
    · subst z
      rw [ha] at e
      cases e
      exact h1 _ _ rfl
  have nsB : ∀ {b : Addr} {m : Str → Option Value}, s₁.heap.Ns b m → (hidT s₁.heap (only2 u a tb)).Ns b m := by
    rintro b m ⟨o, es, ep, e, d, r⟩
    exact ⟨o, es, ep, hidT_get e (free e (fun l n z => by rw [d] at z; cases z) fun z => by rw [d] at z; cases z), d, r⟩
  have inB : K.In (hidT s₁.heap (only2 u a tb)) := fun b o e => hidT_get (KX b o e) (by
    cases q : only2 u a tb b with
    | none => rfl
    | some t =>
      rcases only2_is q with ⟨rfl, _⟩ | ⟨rfl, p, rfl, _⟩
      · rw [noK] at e; cases e
      · rw [keptA (by simp)] at e; cases e)
  have hM : Mod K mg (hidT s₁.heap (only2 u a tb)) := ⟨inB, nsB hns, ⟨mb, nsB hb, hbb⟩, let ⟨mc, h1, h2⟩ := hlim; ⟨mc, nsB h1, h2⟩⟩
  have noFr : ∀ b ∈ frs ([] : List Env), only2 u a tb b = none := fun b z => absurd (show b ∈ ([] : List Addr) from z) (by simp)
  have tB : LamX.TabB (hidT s₁.heap (only2 u a tb)) mg cg tb := by
    obtain ⟨bm, bo, y1, y2, y3, y4, y5, y6⟩ := bmain
    obtain ⟨gd, ges, gep, ge, gdd, _⟩ := id hns
    refine ⟨?_, ⟨bm, bo, y1, y2, fun z => ?_, fun z => ?_, hidT_get y3 (free y3 (fun l n z => by rw [y6] at z; cases z) fun z => by rw [y6] at z; cases z), y4, y5, y6⟩, fun z => ?_⟩
    · obtain ⟨co, cv, cf, ct, cl, cz, ci, cx, cy, j1, j2, j3, j4, j5⟩ := hC
      refine ⟨co, cv, cf, ct, cl, cz, ci, cx, cy, hidT_get j1 (free j1 (fun l n z => by rw [j3] at z; cases z) fun z => ?_), j2, j3, j4, j5⟩
      rw [j3] at z
      cases z
      simp at j4
    · rw [z, ge] at y3
      cases y3
      rw [gdd] at y6
      cases y6
    · rw [z, hT] at y3
      cases y3
      cases y6
    · rw [z, hT] at ge
      cases ge
      cases gdd
  have e0 : Env0 P w K mg (hidT s₁.heap (only2 u a tb)) callerA [] s₁ (only2 u a tb) := ⟨rfl, hM, fun b o e => of_hidT e, Nat.le_of_eq (hidT_size _ _), trivial, noFr, hok, .of_eq hg⟩
  refine codeAny_mono ((F _ inB (nsB hns) tB).run callerA [] s₁ (only2 u a tb) ⟨[.ref a], []⟩ [.ref a] [.ref a] _ _ rfl hr e0 (hbind s₁ (.ref a)) (.cons rfl .nil) hsp) fun r s' h => ?_
  cases r with
  | error e => exact False.elim h
  | ok fl =>
    cases fl with
    | next => exact False.elim h
    | brk => exact False.elim h
    | cont => exact False.elim h
    | ret u2 =>
      obtain ⟨v, H', os, bare, un, hok', r', q⟩ := h
      obtain rfl : v = .bl true := q
      obtain rfl : u2 = Value.bool true := r'
      have stays : ∀ b o, b ≠ tb → s₁.heap.get? b = some o → s'.heap.get? b = some o := fun b o nb e => by
        cases hb2 : only2 u a tb b with
        | none => exact un.keep b o e hb2 (fun z => absurd (show b ∈ ([] : List Addr) from z) (by simp)) (by simp)
        | some t =>
          rcases only2_is hb2 with ⟨z, _⟩ | ⟨_, p, _, rfl⟩
          · exact absurd z nb
          · obtain ⟨e1, _⟩ := hok b _ hb2
            obtain ⟨e2, _⟩ := hok' b _ (un.frzs b p.1 _ hb2)
            exact e2.trans (e1.symm.trans e)
      obtain ⟨more, ht⟩ := un.tbls tb #[] only2_tb
      have grew : s'.heap.get? tb = some { cls := .none, data := .fields (#[] ++ more) } := hok' tb _ ht
      refine ⟨rfl, ⟨fun b o e => ?_, fun b o e => ?_⟩, os, bare⟩
      · by_cases hb2 : b = tb
        · subst hb2
          rw [hT] at e
          cases e
          exact .inr (.inl ⟨(hC.tab hT).isCodeTable, rfl, #[], more, rfl, grew⟩)
        · exact .inl (stays b o hb2 e)
      · by_cases hb2 : b = tb
        · subst hb2
          exact ⟨_, grew⟩
        · exact ⟨o, stays b o hb2 e⟩
end
/-- the end of a law whose def asks that no repr is under way, and whose program makes a lambda in the def z -/
theorem walk_ofGT {l : PySem.W.OpenLaw} {n k : Nat} {q : Program} {loose : List Str} {XP : (Str → Option Value) → Heap → Prop} {YP : World → Heap → Prop} {d : DefRec} {K : Params → PySem.W.Frag} {sp : World → Addr → Sp} {x z : Str}
    (hn : l.most = some n) (hn2 : n ≤ sizeLine) (hdf : d.params.defaults = []) (hr : Room k callerA) (hz : ((recsOf q).any fun e => e.name == z) = true) (hK : ∀ p, PySem.W.noTabs (K p) = true)
    (hY : ∀ (w : World) (h : Heap), YP w h → (K w.params).In h)
    (F : ∀ (w : World) (mg : Str → Option Value) (fa : Addr) (h : Heap) (cg tb : Addr), (K w.params).In h → h.Ns mainGlobals mg → mg d.name = some (.ref fa) → (∀ g o fdz, mg z = some (.ref g) → h.get? g = some o → o.data = .func fdz → fdz.code = .ref cg) →
      ∃ fd : FuncData, (∀ (s : Shared) (u : Value), BindsTo s fd ⟨[u], []⟩ [(x, u)]) ∧
        ∀ base : Heap, (K w.params).In base → base.Ns mainGlobals mg → LamX.TabB base mg cg tb → FnOkG l.prog w (K w.params) mg base k fa fd [x] (sp w tb))
    (hsp : ∀ (w : World) (H : Hp) (a tb : Addr) (ns : List Int), ns.length ≤ n → H tb = some (.tbl #[]) → SqL (K w.params) H a (ns.map V.int) → sp w tb [.ref a] H (fun v _ => v = .bl true) fun _ _ _ => False) :
    PySem.W.WalkO q loose XP YP l.row.toRowW d [] (fun f vs => PySem.call f vs) := by
  refine Att.attach_call hn hdf fun w s₀ s₁ mg mb fa o pm cd doc a vs ns G Y ho hd hcd hmg hobj hints hlen hg => ?_
  have KX := hY w _ Y
  obtain ⟨dz, mz, nz⟩ := List.any_eq_true.mp hz
  obtain ⟨ag, og, fg, cg, tb, t1, t2, t3, t4, t5, t6⟩ := G.T.tab dz mz
  rw [beq_iff_eq.mp nz] at t1
  have hT := t6.2
  have hC := PySem.W.CodeHd.of t5 t6
  have noK : (K w.params).lookup tb = none := by
    cases e : (K w.params).lookup tb with
    | none => rfl
    | some o2 =>
      have e2 := KX _ _ e
      rw [hT] at e2
      cases e2
      have tabless := List.all_eq_true.mp (hK w.params) _ (PySem.W.mem_of_lookupK e)
      exact absurd (show false = true from tabless) Bool.false_ne_true
  have neA : a ≠ tb := fun e => by
    rw [e, hT] at hobj
    cases hobj
  obtain ⟨fd, hb, hF⟩ := F w mg fa _ cg tb KX G.T.g hmg fun g o2 fz m1 m2 m3 => by
    rw [t1] at m1
    cases m1
    rw [t2] at m2
    cases m2
    rw [t3] at m3
    cases m3
    exact t4
  have rv := vals_ints hints
  have ls : (ns.map V.int).length ≤ sizeLine := by rw [List.length_map]; exact Nat.le_trans hlen hn2
  cases hk : (K w.params).lookup a with
  | some o2 =>
    have e := KX a o2 hk
    rw [hobj] at e
    cases e
    refine call_from3 (u := none) KX G.T.g G.T.b G.T.builtins G.T.nolimit hg G.T.bmain hT hC noK neA hr hF hb hobj (hsp w _ a tb ns hlen only2_tb (.inr ⟨_, vs.toArray, _, hk, rfl, rfl, rfl, ?_, by simpa using rv⟩)) (fun b u z => ?_) fun h => absurd rfl h
    · rw [List.size_toArray, ← rv.length]
      exact ls
    · rcases only2_is z with ⟨rfl, rfl⟩ | ⟨_, p, e, _⟩
      · exact hT
      · cases e
  | none =>
    refine call_from3 (u := some ({ cls := .type "list", data := .seq vs.toArray }, ns.map V.int)) KX G.T.g G.T.b G.T.builtins G.T.nolimit hg G.T.bmain hT hC noK neA hr hF hb hobj (hsp w _ a tb ns hlen only2_tb (.inl (.inr ⟨_, only2_a neA⟩))) (fun b u z => ?_) fun _ => hk
    rcases only2_is z with ⟨rfl, rfl⟩ | ⟨rfl, p, e, rfl⟩
    · exact hT
    · cases e
      exact ⟨hobj, ls, vs, _, rv, hobj⟩
end Ew
namespace Ew
open PySem PySem.Spec PyProof.Rows L2
theorem topR_of {P : Program} {w : World} {K : PySem.W.Frag} {mg : Str → Option Value} {base : Heap} {C SB RE tb : Addr} (V1 : Vals1 K mg) (TB : BookTxt K mg C) (N : NoBook K C) (LN : ∃ f fd, Fun K "__len__" "Book.__len__" sLenB f fd ∧ Binds K fd ["self"] [] ∧ Meth K C "__len__" f) (TS : ShTxt K mg SB RE) 
    (d0 : ∃ f fd, Fun K "_law_feed" "_law_feed" sFeed f fd ∧ Binds K fd ["script", "k"] [] ∧ mg "_law_feed" = some (.ref f))
    (d1 : ∃ f fd, Fun K "_law_take" "_law_take" sTake f fd ∧ Binds K fd ["feed", "many"] [] ∧ mg "_law_take" = some (.ref f))
    (d2 : ∃ f fd, Fun K "present_readers" "present_readers" sPresent f fd ∧ Binds K fd ["book", "absent"] [] ∧ mg "present_readers" = some (.ref f))
    (d3 : ∃ f fd, Fun K "is_free" "is_free" sFree f fd ∧ Binds K fd ["book", "rows", "reader"] [] ∧ mg "is_free" = some (.ref f))
    (d4 : ∃ f fd, Fun K "can_take" "can_take" sCanT f fd ∧ Binds K fd ["book", "rows", "reader", "work"] [] ∧ mg "can_take" = some (.ref f))
    (d5 : ∃ f fd, Fun K "takers" "takers" sTakers f fd ∧ Binds K fd ["book", "rows", "absent", "work"] [] ∧ mg "takers" = some (.ref f))
    (d6 : ∃ f fd, Fun K "loose_works" "loose_works" sLoose f fd ∧ Binds K fd ["kept", "rows", "reader"] [] ∧ mg "loose_works" = some (.ref f))
    (d7 : ∃ f fd, Fun K "step" "step" sStep f fd ∧ Binds K fd ["book", "kept", "rows", "absent", "work"] [] ∧ mg "step" = some (.ref f))
    (d8 : ∃ f fd, Fun K "count" "count" sCount f fd ∧ Binds K fd ["book", "rows", "reader", "works"] [] ∧ mg "count" = some (.ref f))
    (d9 : ∃ f fd, Fun K "is_short" "is_short" sShort f fd ∧ Binds K fd ["book", "rows", "absent", "works"] [] ∧ mg "is_short" = some (.ref f))
    (d10 : ∃ f fd, Fun K "times_read" "times_read" sTRead f fd ∧ Binds K fd ["book", "rows", "absent"] [] ∧ mg "times_read" = some (.ref f))
    (d11 : ∃ f fd, Fun K "without" "without" sWithout f fd ∧ Binds K fd ["rows", "absent"] [] ∧ mg "without" = some (.ref f))
    (d12 : ∃ f fd, Fun K "sets_of_works" "sets_of_works" sSetsW f fd ∧ Binds K fd ["many"] [] ∧ mg "sets_of_works" = some (.ref f))
    (d13 : ∃ f fd, Fun K "walked" "walked" sWalked f fd ∧ Binds K fd ["rows", "chain"] [] ∧ mg "walked" = some (.ref f))
    (d14 : ∃ f fd, Fun K "extended" "extended" sExtended f fd ∧ Binds K fd ["book", "rows", "absent"] [] ∧ mg "extended" = some (.ref f))
    (d15 : ∃ f fd, Fun K "extension" "extension" sExtension f fd ∧ Binds K fd ["book", "rows", "absent"] [] ∧ mg "extension" = some (.ref f))
    (d16 : ∃ f fd, Fun K "nobody_reads" "nobody_reads" sNobody f fd ∧ Binds K fd ["book"] [] ∧ mg "nobody_reads" = some (.ref f))
    (d17 : ∃ f fd, Fun K "good_rows" "good_rows" sGoodRows f fd ∧ Binds K fd ["book", "absent"] [] ∧ mg "good_rows" = some (.ref f))
    (d18 : ∃ f fd, Fun K "some_good_rows" "some_good_rows" sSome f fd ∧ Binds K fd ["book", "absent"] [] ∧ mg "some_good_rows" = some (.ref f))
    (d19 : ∃ f fd, Fun K "lack" "lack" sLack f fd ∧ Binds K fd ["book", "rows", "readers", "works"] [] ∧ mg "lack" = some (.ref f))
    (d20 : ∃ f fd, Fun K "with_reader" "with_reader" sWithR f fd ∧ Binds K fd ["book", "reader", "limit", "may"] [] ∧ mg "with_reader" = some (.ref f))
    (d21 : ∃ f fd, Fun K "with_demand" "with_demand" sWithD f fd ∧ Binds K fd ["book", "work", "demand"] [] ∧ mg "with_demand" = some (.ref f))
    (d22 : DefL K mg base "greatest_lack" sGrL ["book", "rows", "readers"] tb)
    (d23 : ∃ f fd, Fun K "least_tight" "least_tight" sLT f fd ∧ Binds K fd ["book", "absent", "work"] [] ∧ mg "least_tight" = some (.ref f))
    (d24 : ∃ f fd, Fun K "are_good_rows" "are_good_rows" sAreG f fd ∧ Binds K fd ["book", "absent"] [] ∧ mg "are_good_rows" = some (.ref f))
    (d25 : ∃ f fd, Fun K "can_read" "can_read" sCanR f fd ∧ Binds K fd ["book", "absent", "reader", "work"] [] ∧ mg "can_read" = some (.ref f))
    (d26 : ∃ f fd, Fun K "can_leave" "can_leave" sCanL f fd ∧ Binds K fd ["book", "absent", "reader", "work"] [] ∧ mg "can_leave" = some (.ref f))
    (d27 : ∃ f fd, Fun K "pair" "pair" sPair f fd ∧ Binds K fd ["book", "absent", "reader", "work"] [] ∧ mg "pair" = some (.ref f))
    (d28 : ∃ f fd, Fun K "readings" "readings" sReadg f fd ∧ Binds K fd ["book", "absent", "reader"] [] ∧ mg "readings" = some (.ref f))
    (d29 : ∃ f fd, Fun K "good_with" "good_with" sGoodW f fd ∧ Binds K fd ["book", "absent", "reader", "works"] [] ∧ mg "good_with" = some (.ref f))
    (d30 : ∃ f fd, Fun K "_law_short_of" "_law_short_of" sLSO f fd ∧ Binds K fd ["book", "absent"] [] ∧ mg "_law_short_of" = some (.ref f))
    (d31 : ∃ f fd, Fun K "_law_of_a_ring" "_law_of_a_ring" sRing f fd ∧ Binds K fd ["limit"] [] ∧ mg "_law_of_a_ring" = some (.ref f))
    (d32 : ∃ f fd, Fun K "_law_of_short_ones" "_law_of_short_ones" sShorts f fd ∧ Binds K fd ["limit"] [] ∧ mg "_law_of_short_ones" = some (.ref f)) : TopR P w K mg base C SB tb := by
  have B := V1.bi
  have V1' := V1
  obtain ⟨_, _, _, _, ⟨fI, fdI, FI, bI, gI⟩, _, ⟨fA, fdA, FA, bA, gA⟩, _, _⟩ := V1'
  obtain ⟨fF, fdF, FF, bF, gF⟩ := d0
  obtain ⟨fTk, fdTk, FTk, bTk, gTk⟩ := d1
  have T : BkC P w K mg base C := bkC_of TB V1 N LN
  have cI : C8.Cal P w K mg base 1 "is_integer" (spIsInt K) [] := ⟨fI, fdI, _, [], ok_isInt FI B, gI, FI.kp, bI, .nil⟩
  have cA : C8.Cal P w K mg base 2 "is_ascending" (spIsAsc K) [] := ⟨fA, fdA, _, [], ok_isAsc FA V1, gA, FA.kp, bA, .nil⟩
  have cTk : C8.Cal P w K mg base 1 "_law_take" spTake [] := ⟨fTk, fdTk, _, [], ok_take FTk B, gTk, FTk.kp, bTk, .nil⟩
  have c_present_readers := c_present_readers (P := P) (w := w) (base := base) ⟨d2⟩ B T 
  have c_is_free := c_is_free (P := P) (w := w) (base := base) ⟨d3⟩ B T 
  have c_can_take := c_can_take (P := P) (w := w) (base := base) ⟨d4⟩ B T 
  have c_takers := c_takers (P := P) (w := w) (base := base) ⟨d5⟩ B T c_present_readers c_can_take
  have c_loose_works := c_loose_works (P := P) (w := w) (base := base) ⟨d6⟩ B T 
  have c_step := c_step (P := P) (w := w) (base := base) ⟨d7⟩ B T c_takers c_is_free c_loose_works
  have c_count := c_count (P := P) (w := w) (base := base) ⟨d8⟩ B T 
  have c_is_short := c_is_short (P := P) (w := w) (base := base) ⟨d9⟩ B T c_count c_present_readers
  have c_times_read := c_times_read (P := P) (w := w) (base := base) ⟨d10⟩ B T c_present_readers
  have c_without := c_without (P := P) (w := w) (base := base) ⟨d11⟩ B T 
  have c_sets_of_works := c_sets_of_works (P := P) (w := w) (base := base) (C := C) ⟨d12⟩ B 
  have c_walked := c_walked (P := P) (w := w) (base := base) (C := C) ⟨d13⟩ B 
  have c_extended := c_extended (P := P) (w := w) (base := base) ⟨d14⟩ B T c_without c_times_read c_step c_walked
  have c_extension := c_extension (P := P) (w := w) (base := base) ⟨d15⟩ B T c_sets_of_works c_is_short c_extended
  have c_nobody_reads := c_nobody_reads (P := P) (w := w) (base := base) ⟨d16⟩ B T 
  have c_good_rows := c_good_rows (P := P) (w := w) (base := base) ⟨d17⟩ c_extension c_nobody_reads
  have c_some_good_rows := c_some_good_rows (P := P) (w := w) (base := base) ⟨d18⟩ B TS c_good_rows
  have c_lack := c_lack (P := P) (w := w) (base := base) ⟨d19⟩ B T c_count
  have c_with_reader := c_with_reader (P := P) (w := w) (base := base) ⟨d20⟩ B T 
  have c_with_demand := c_with_demand (P := P) (w := w) (base := base) ⟨d21⟩ B T 
  have c_greatest_lack := c_greatest_lack (P := P) (w := w) (base := base) d22 B T c_sets_of_works c_lack
  have c_least_tight := c_least_tight (P := P) (w := w) (base := base) ⟨d23⟩ B T c_some_good_rows c_nobody_reads c_present_readers c_sets_of_works c_lack
  have c_are_good_rows := c_are_good_rows (P := P) (w := w) (base := base) ⟨d24⟩ B T c_good_rows
  have c_can_read := c_can_read (P := P) (w := w) (base := base) ⟨d25⟩ B T c_with_reader c_with_demand c_are_good_rows
  have c_can_leave := c_can_leave (P := P) (w := w) (base := base) ⟨d26⟩ B T c_with_reader c_are_good_rows
  have c_pair := c_pair (P := P) (w := w) (base := base) ⟨d27⟩ B T c_some_good_rows c_can_read c_can_leave
  have c_readings := c_readings (P := P) (w := w) (base := base) ⟨d28⟩ B T c_some_good_rows c_present_readers c_greatest_lack c_nobody_reads
  have c_good_with := c_good_with (P := P) (w := w) (base := base) ⟨d29⟩ B T c_with_reader c_with_demand c_good_rows
  have c__law_short_of := c__law_short_of (P := P) (w := w) (base := base) ⟨d30⟩ B T TS c_least_tight c_pair c_readings
  have c__law_of_a_ring := c__law_of_a_ring (P := P) (w := w) (base := base) ⟨d31⟩ B T c_least_tight c_pair c_readings c_good_with
  have c__law_of_short_ones := c__law_of_short_ones (P := P) (w := w) (base := base) ⟨d32⟩ B T c_least_tight c_pair c_readings c_good_with c_good_rows c__law_short_of
  exact ⟨B, T, ⟨fF, fdF, _, [], ok_feed FF B, gF, FF.kp, bF, .nil⟩, cTk, c__law_of_a_ring, c__law_of_short_ones⟩
end Ew
namespace Ew
open PySem PySem.Spec PyProof.Rows L2
theorem notF {K : PySem.W.Frag} {C : Addr} {t : Value} (h : PySem.W.subIn K t (.ref C) = some false) : PySem.W.notFirst K C t = true := by
  unfold PySem.W.notFirst
  rw [h]
  simp
theorem exm_self {K : PySem.W.Frag} {S : Addr} (h1 : PySem.W.subIn K (.ref S) (.type "BaseException") = some true) (h2 : PySem.W.isClsIn K S = true) (h3 : PySem.W.typeIn K (.ref S) = some (.type "type")) (h4 : PySem.W.subIn K (.ref S) (.ref S) = some true) : PySem.W.exmOne K (.ref S) (.ref S) = some true := by
  have e1 : (PySem.W.subIn K (.ref S) (.type "BaseException") == some true) = true := by rw [h1] <;> rfl
  have e2 : ((PySem.W.clsIn K S).isSome && PySem.W.typeIn K (.ref S) == some (.type "type")) = true := by
    have h2' : (PySem.W.clsIn K S).isSome = true := h2
    rw [h2', h3] <;> rfl
  show (if (PySem.W.subIn K (.ref S) (.type "BaseException") == some true) = true then (if ((PySem.W.clsIn K S).isSome && PySem.W.typeIn K (.ref S) == some (.type "type")) = true then PySem.W.subIn K (.ref S) (.ref S) else none) else none) = some true
  rw [if_pos e1, if_pos e2]
  exact h4
set_option maxHeartbeats 0 in
theorem all_mk {l : PySem.W.OpenLaw} {w : World} {K : PySem.W.Frag} {h : Heap} {mg : Str → Option Value} {fa : Addr} (X : K.In h) (G : h.Ns mainGlobals mg) (hfa : mg "law" = some (.ref fa))
    {f1 : Addr} {od1 an1 : Option Addr} {sl1 : Array (Option Value)} {oc1 kV1 dc1 pm1 cd1 ct1 : Value}
    {f2 : Addr} {od2 an2 : Option Addr} {sl2 : Array (Option Value)} {oc2 kV2 dc2 pm2 cd2 ct2 : Value}
    {f3 : Addr} {od3 an3 : Option Addr} {sl3 : Array (Option Value)} {oc3 kV3 dc3 pm3 cd3 ct3 : Value}
    {f4 : Addr} {od4 an4 : Option Addr} {sl4 : Array (Option Value)} {oc4 kV4 dc4 pm4 cd4 ct4 : Value}
    {f5 : Addr} {od5 an5 : Option Addr} {sl5 : Array (Option Value)} {oc5 kV5 dc5 pm5 cd5 ct5 : Value}
    {f6 : Addr} {od6 an6 : Option Addr} {sl6 : Array (Option Value)} {oc6 kV6 dc6 pm6 cd6 ct6 : Value}
    {f7 : Addr} {od7 an7 : Option Addr} {sl7 : Array (Option Value)} {oc7 kV7 dc7 pm7 cd7 ct7 : Value}
    {f8 : Addr} {od8 an8 : Option Addr} {sl8 : Array (Option Value)} {oc8 kV8 dc8 pm8 cd8 ct8 : Value}
    {f9 : Addr} {od9 an9 : Option Addr} {sl9 : Array (Option Value)} {oc9 kV9 dc9 pm9 cd9 ct9 : Value}
    {f10 : Addr} {od10 an10 : Option Addr} {sl10 : Array (Option Value)} {oc10 kV10 dc10 pm10 cd10 ct10 : Value}
    {f11 : Addr} {od11 an11 : Option Addr} {sl11 : Array (Option Value)} {oc11 kV11 dc11 pm11 cd11 ct11 : Value}
    {f12 : Addr} {od12 an12 : Option Addr} {sl12 : Array (Option Value)} {oc12 kV12 dc12 pm12 cd12 ct12 : Value}
    {f13 : Addr} {od13 an13 : Option Addr} {sl13 : Array (Option Value)} {oc13 kV13 dc13 pm13 cd13 ct13 : Value}
    {f14 : Addr} {od14 an14 : Option Addr} {sl14 : Array (Option Value)} {oc14 kV14 dc14 pm14 cd14 ct14 : Value}
    {f15 : Addr} {od15 an15 : Option Addr} {sl15 : Array (Option Value)} {oc15 kV15 dc15 pm15 cd15 ct15 : Value}
    {f16 : Addr} {od16 an16 : Option Addr} {sl16 : Array (Option Value)} {oc16 kV16 dc16 pm16 cd16 ct16 : Value}
    {f17 : Addr} {od17 an17 : Option Addr} {sl17 : Array (Option Value)} {oc17 kV17 dc17 pm17 cd17 ct17 : Value}
    {f18 : Addr} {od18 an18 : Option Addr} {sl18 : Array (Option Value)} {oc18 kV18 dc18 pm18 cd18 ct18 : Value}
    {f19 : Addr} {od19 an19 : Option Addr} {sl19 : Array (Option Value)} {oc19 kV19 dc19 pm19 cd19 ct19 : Value}
    {f20 : Addr} {od20 an20 : Option Addr} {sl20 : Array (Option Value)} {oc20 kV20 dc20 pm20 cd20 ct20 : Value}
    {f21 : Addr} {od21 an21 : Option Addr} {sl21 : Array (Option Value)} {oc21 kV21 dc21 pm21 cd21 ct21 : Value}
    {f22 : Addr} {od22 an22 : Option Addr} {sl22 : Array (Option Value)} {oc22 kV22 dc22 pm22 cd22 ct22 : Value}
    {f23 : Addr} {od23 an23 : Option Addr} {sl23 : Array (Option Value)} {oc23 kV23 dc23 pm23 cd23 ct23 : Value}
    {f24 : Addr} {od24 an24 : Option Addr} {sl24 : Array (Option Value)} {oc24 kV24 dc24 pm24 cd24 ct24 : Value}
    {f25 : Addr} {od25 an25 : Option Addr} {sl25 : Array (Option Value)} {oc25 kV25 dc25 pm25 cd25 ct25 : Value}
    {f26 : Addr} {od26 an26 : Option Addr} {sl26 : Array (Option Value)} {oc26 kV26 dc26 pm26 cd26 ct26 : Value}
    {f27 : Addr} {od27 an27 : Option Addr} {sl27 : Array (Option Value)} {oc27 kV27 dc27 pm27 cd27 ct27 : Value}
    {f28 : Addr} {od28 an28 : Option Addr} {sl28 : Array (Option Value)} {oc28 kV28 dc28 pm28 cd28 ct28 : Value}
    {f29 : Addr} {od29 an29 : Option Addr} {sl29 : Array (Option Value)} {oc29 kV29 dc29 pm29 cd29 ct29 : Value}
    {f30 : Addr} {od30 an30 : Option Addr} {sl30 : Array (Option Value)} {oc30 kV30 dc30 pm30 cd30 ct30 : Value}
    {f31 : Addr} {od31 an31 : Option Addr} {sl31 : Array (Option Value)} {oc31 kV31 dc31 pm31 cd31 ct31 : Value}
    {f32 : Addr} {od32 an32 : Option Addr} {sl32 : Array (Option Value)} {oc32 kV32 dc32 pm32 cd32 ct32 : Value}
    {f33 : Addr} {od33 an33 : Option Addr} {sl33 : Array (Option Value)} {oc33 kV33 dc33 pm33 cd33 ct33 : Value}
    {f34 : Addr} {od34 an34 : Option Addr} {sl34 : Array (Option Value)} {oc34 kV34 dc34 pm34 cd34 ct34 : Value}
    {f35 : Addr} {od35 an35 : Option Addr} {sl35 : Array (Option Value)} {oc35 kV35 dc35 pm35 cd35 ct35 : Value}
    {f36 : Addr} {od36 an36 : Option Addr} {sl36 : Array (Option Value)} {oc36 kV36 dc36 pm36 cd36 ct36 : Value}
    {f37 : Addr} {od37 an37 : Option Addr} {sl37 : Array (Option Value)} {oc37 kV37 dc37 pm37 cd37 ct37 : Value}
    {f38 : Addr} {od38 an38 : Option Addr} {sl38 : Array (Option Value)} {oc38 kV38 dc38 pm38 cd38 ct38 : Value}
    {f39 : Addr} {od39 an39 : Option Addr} {sl39 : Array (Option Value)} {oc39 kV39 dc39 pm39 cd39 ct39 : Value}
    {C : Addr}
    {fm1 : Addr} {odm1 anm1 : Option Addr} {slm1 : Array (Option Value)} {ocm1 kVm1 dcm1 pmm1 cdm1 ctm1 : Value}
    {fm2 : Addr} {odm2 anm2 : Option Addr} {slm2 : Array (Option Value)} {ocm2 kVm2 dcm2 pmm2 cdm2 ctm2 : Value}
    {fm3 : Addr} {odm3 anm3 : Option Addr} {slm3 : Array (Option Value)} {ocm3 kVm3 dcm3 pmm3 cdm3 ctm3 : Value}
    {fm4 : Addr} {odm4 anm4 : Option Addr} {slm4 : Array (Option Value)} {ocm4 kVm4 dcm4 pmm4 cdm4 ctm4 : Value}
    {fm5 : Addr} {odm5 anm5 : Option Addr} {slm5 : Array (Option Value)} {ocm5 kVm5 dcm5 pmm5 cdm5 ctm5 : Value}
    {BB RE : Addr} {enm eq : Str} {eN : Addr} {ebs esub : List Value} {esn : List Str} {eab : Bool} {ecol : Option Bool} {edd : Option Addr} {em0 em1 em2 em3 em5 : Option Value}
    {fe1 : Addr} {ode1 ane1 : Option Addr} {sle1 : Array (Option Value)} {oce1 kVe1 dce1 pme1 cde1 cte1 : Value}
    {g0 g1 g2 : Tok}
    (a1 : PySem.W.nsIn K mainGlobals "is_integer" = some (some (.ref f1)))
    (l1 : K.lookup f1 = some ⟨oc1, od1, .func (PySem.W.fnOf "is_integer" "is_integer" (defArgs sIsInt) (defBody sIsInt) (defScope sIsInt) .none kV1 dc1 pm1 an1 cd1 ct1), sl1⟩)
    (c1 : PySem.W.codeIn K cd1 "is_integer" = true)
    (k1 : PySem.W.keepIn K (.ref f1) = true)
    (a2 : PySem.W.nsIn K mainGlobals "is_amount" = some (some (.ref f2)))
    (l2 : K.lookup f2 = some ⟨oc2, od2, .func (PySem.W.fnOf "is_amount" "is_amount" (defArgs sIsAmt) (defBody sIsAmt) (defScope sIsAmt) .none kV2 dc2 pm2 an2 cd2 ct2), sl2⟩)
    (c2 : PySem.W.codeIn K cd2 "is_amount" = true)
    (k2 : PySem.W.keepIn K (.ref f2) = true)
    (a3 : PySem.W.nsIn K mainGlobals "is_ascending" = some (some (.ref f3)))
    (l3 : K.lookup f3 = some ⟨oc3, od3, .func (PySem.W.fnOf "is_ascending" "is_ascending" (defArgs sIsAsc) (defBody sIsAsc) (defScope sIsAsc) .none kV3 dc3 pm3 an3 cd3 ct3), sl3⟩)
    (c3 : PySem.W.codeIn K cd3 "is_ascending" = true)
    (k3 : PySem.W.keepIn K (.ref f3) = true)
    (a4 : PySem.W.nsIn K mainGlobals "are_demands" = some (some (.ref f4)))
    (l4 : K.lookup f4 = some ⟨oc4, od4, .func (PySem.W.fnOf "are_demands" "are_demands" (defArgs sAreDem) (defBody sAreDem) (defScope sAreDem) .none kV4 dc4 pm4 an4 cd4 ct4), sl4⟩)
    (c4 : PySem.W.codeIn K cd4 "are_demands" = true)
    (k4 : PySem.W.keepIn K (.ref f4) = true)
    (a5 : PySem.W.nsIn K mainGlobals "is_reader" = some (some (.ref f5)))
    (l5 : K.lookup f5 = some ⟨oc5, od5, .func (PySem.W.fnOf "is_reader" "is_reader" (defArgs sIsRd) (defBody sIsRd) (defScope sIsRd) .none kV5 dc5 pm5 an5 cd5 ct5), sl5⟩)
    (c5 : PySem.W.codeIn K cd5 "is_reader" = true)
    (k5 : PySem.W.keepIn K (.ref f5) = true)
    (a6 : PySem.W.nsIn K mainGlobals "_law_feed" = some (some (.ref f6)))
    (l6 : K.lookup f6 = some ⟨oc6, od6, .func (PySem.W.fnOf "_law_feed" "_law_feed" (defArgs sFeed) (defBody sFeed) (defScope sFeed) .none kV6 dc6 pm6 an6 cd6 ct6), sl6⟩)
    (c6 : PySem.W.codeIn K cd6 "_law_feed" = true)
    (k6 : PySem.W.keepIn K (.ref f6) = true)
    (a7 : PySem.W.nsIn K mainGlobals "_law_take" = some (some (.ref f7)))
    (l7 : K.lookup f7 = some ⟨oc7, od7, .func (PySem.W.fnOf "_law_take" "_law_take" (defArgs sTake) (defBody sTake) (defScope sTake) .none kV7 dc7 pm7 an7 cd7 ct7), sl7⟩)
    (c7 : PySem.W.codeIn K cd7 "_law_take" = true)
    (k7 : PySem.W.keepIn K (.ref f7) = true)
    (a8 : PySem.W.nsIn K mainGlobals "present_readers" = some (some (.ref f8)))
    (l8 : K.lookup f8 = some ⟨oc8, od8, .func (PySem.W.fnOf "present_readers" "present_readers" (defArgs sPresent) (defBody sPresent) (defScope sPresent) .none kV8 dc8 pm8 an8 cd8 ct8), sl8⟩)
    (c8 : PySem.W.codeIn K cd8 "present_readers" = true)
    (k8 : PySem.W.keepIn K (.ref f8) = true)
    (a9 : PySem.W.nsIn K mainGlobals "is_free" = some (some (.ref f9)))
    (l9 : K.lookup f9 = some ⟨oc9, od9, .func (PySem.W.fnOf "is_free" "is_free" (defArgs sFree) (defBody sFree) (defScope sFree) .none kV9 dc9 pm9 an9 cd9 ct9), sl9⟩)
    (c9 : PySem.W.codeIn K cd9 "is_free" = true)
    (k9 : PySem.W.keepIn K (.ref f9) = true)
    (a10 : PySem.W.nsIn K mainGlobals "can_take" = some (some (.ref f10)))
    (l10 : K.lookup f10 = some ⟨oc10, od10, .func (PySem.W.fnOf "can_take" "can_take" (defArgs sCanT) (defBody sCanT) (defScope sCanT) .none kV10 dc10 pm10 an10 cd10 ct10), sl10⟩)
    (c10 : PySem.W.codeIn K cd10 "can_take" = true)
    (k10 : PySem.W.keepIn K (.ref f10) = true)
    (a11 : PySem.W.nsIn K mainGlobals "takers" = some (some (.ref f11)))
    (l11 : K.lookup f11 = some ⟨oc11, od11, .func (PySem.W.fnOf "takers" "takers" (defArgs sTakers) (defBody sTakers) (defScope sTakers) .none kV11 dc11 pm11 an11 cd11 ct11), sl11⟩)
    (c11 : PySem.W.codeIn K cd11 "takers" = true)
    (k11 : PySem.W.keepIn K (.ref f11) = true)
    (a12 : PySem.W.nsIn K mainGlobals "loose_works" = some (some (.ref f12)))
    (l12 : K.lookup f12 = some ⟨oc12, od12, .func (PySem.W.fnOf "loose_works" "loose_works" (defArgs sLoose) (defBody sLoose) (defScope sLoose) .none kV12 dc12 pm12 an12 cd12 ct12), sl12⟩)
    (c12 : PySem.W.codeIn K cd12 "loose_works" = true)
    (k12 : PySem.W.keepIn K (.ref f12) = true)
    (a13 : PySem.W.nsIn K mainGlobals "step" = some (some (.ref f13)))
    (l13 : K.lookup f13 = some ⟨oc13, od13, .func (PySem.W.fnOf "step" "step" (defArgs sStep) (defBody sStep) (defScope sStep) .none kV13 dc13 pm13 an13 cd13 ct13), sl13⟩)
    (c13 : PySem.W.codeIn K cd13 "step" = true)
    (k13 : PySem.W.keepIn K (.ref f13) = true)
    (a14 : PySem.W.nsIn K mainGlobals "count" = some (some (.ref f14)))
    (l14 : K.lookup f14 = some ⟨oc14, od14, .func (PySem.W.fnOf "count" "count" (defArgs sCount) (defBody sCount) (defScope sCount) .none kV14 dc14 pm14 an14 cd14 ct14), sl14⟩)
    (c14 : PySem.W.codeIn K cd14 "count" = true)
    (k14 : PySem.W.keepIn K (.ref f14) = true)
    (a15 : PySem.W.nsIn K mainGlobals "is_short" = some (some (.ref f15)))
    (l15 : K.lookup f15 = some ⟨oc15, od15, .func (PySem.W.fnOf "is_short" "is_short" (defArgs sShort) (defBody sShort) (defScope sShort) .none kV15 dc15 pm15 an15 cd15 ct15), sl15⟩)
    (c15 : PySem.W.codeIn K cd15 "is_short" = true)
    (k15 : PySem.W.keepIn K (.ref f15) = true)
    (a16 : PySem.W.nsIn K mainGlobals "times_read" = some (some (.ref f16)))
    (l16 : K.lookup f16 = some ⟨oc16, od16, .func (PySem.W.fnOf "times_read" "times_read" (defArgs sTRead) (defBody sTRead) (defScope sTRead) .none kV16 dc16 pm16 an16 cd16 ct16), sl16⟩)
    (c16 : PySem.W.codeIn K cd16 "times_read" = true)
    (k16 : PySem.W.keepIn K (.ref f16) = true)
    (a17 : PySem.W.nsIn K mainGlobals "without" = some (some (.ref f17)))
    (l17 : K.lookup f17 = some ⟨oc17, od17, .func (PySem.W.fnOf "without" "without" (defArgs sWithout) (defBody sWithout) (defScope sWithout) .none kV17 dc17 pm17 an17 cd17 ct17), sl17⟩)
    (c17 : PySem.W.codeIn K cd17 "without" = true)
    (k17 : PySem.W.keepIn K (.ref f17) = true)
    (a18 : PySem.W.nsIn K mainGlobals "sets_of_works" = some (some (.ref f18)))
    (l18 : K.lookup f18 = some ⟨oc18, od18, .func (PySem.W.fnOf "sets_of_works" "sets_of_works" (defArgs sSetsW) (defBody sSetsW) (defScope sSetsW) .none kV18 dc18 pm18 an18 cd18 ct18), sl18⟩)
    (c18 : PySem.W.codeIn K cd18 "sets_of_works" = true)
    (k18 : PySem.W.keepIn K (.ref f18) = true)
    (a19 : PySem.W.nsIn K mainGlobals "walked" = some (some (.ref f19)))
    (l19 : K.lookup f19 = some ⟨oc19, od19, .func (PySem.W.fnOf "walked" "walked" (defArgs sWalked) (defBody sWalked) (defScope sWalked) .none kV19 dc19 pm19 an19 cd19 ct19), sl19⟩)
    (c19 : PySem.W.codeIn K cd19 "walked" = true)
    (k19 : PySem.W.keepIn K (.ref f19) = true)
    (a20 : PySem.W.nsIn K mainGlobals "extended" = some (some (.ref f20)))
    (l20 : K.lookup f20 = some ⟨oc20, od20, .func (PySem.W.fnOf "extended" "extended" (defArgs sExtended) (defBody sExtended) (defScope sExtended) .none kV20 dc20 pm20 an20 cd20 ct20), sl20⟩)
    (c20 : PySem.W.codeIn K cd20 "extended" = true)
    (k20 : PySem.W.keepIn K (.ref f20) = true)
    (a21 : PySem.W.nsIn K mainGlobals "extension" = some (some (.ref f21)))
    (l21 : K.lookup f21 = some ⟨oc21, od21, .func (PySem.W.fnOf "extension" "extension" (defArgs sExtension) (defBody sExtension) (defScope sExtension) .none kV21 dc21 pm21 an21 cd21 ct21), sl21⟩)
    (c21 : PySem.W.codeIn K cd21 "extension" = true)
    (k21 : PySem.W.keepIn K (.ref f21) = true)
    (a22 : PySem.W.nsIn K mainGlobals "nobody_reads" = some (some (.ref f22)))
    (l22 : K.lookup f22 = some ⟨oc22, od22, .func (PySem.W.fnOf "nobody_reads" "nobody_reads" (defArgs sNobody) (defBody sNobody) (defScope sNobody) .none kV22 dc22 pm22 an22 cd22 ct22), sl22⟩)
    (c22 : PySem.W.codeIn K cd22 "nobody_reads" = true)
    (k22 : PySem.W.keepIn K (.ref f22) = true)
    (a23 : PySem.W.nsIn K mainGlobals "good_rows" = some (some (.ref f23)))
    (l23 : K.lookup f23 = some ⟨oc23, od23, .func (PySem.W.fnOf "good_rows" "good_rows" (defArgs sGoodRows) (defBody sGoodRows) (defScope sGoodRows) .none kV23 dc23 pm23 an23 cd23 ct23), sl23⟩)
    (c23 : PySem.W.codeIn K cd23 "good_rows" = true)
    (k23 : PySem.W.keepIn K (.ref f23) = true)
    (a24 : PySem.W.nsIn K mainGlobals "some_good_rows" = some (some (.ref f24)))
    (l24 : K.lookup f24 = some ⟨oc24, od24, .func (PySem.W.fnOf "some_good_rows" "some_good_rows" (defArgs sSome) (defBody sSome) (defScope sSome) .none kV24 dc24 pm24 an24 cd24 ct24), sl24⟩)
    (c24 : PySem.W.codeIn K cd24 "some_good_rows" = true)
    (k24 : PySem.W.keepIn K (.ref f24) = true)
    (a25 : PySem.W.nsIn K mainGlobals "lack" = some (some (.ref f25)))
    (l25 : K.lookup f25 = some ⟨oc25, od25, .func (PySem.W.fnOf "lack" "lack" (defArgs sLack) (defBody sLack) (defScope sLack) .none kV25 dc25 pm25 an25 cd25 ct25), sl25⟩)
    (c25 : PySem.W.codeIn K cd25 "lack" = true)
    (k25 : PySem.W.keepIn K (.ref f25) = true)
    (a26 : PySem.W.nsIn K mainGlobals "with_reader" = some (some (.ref f26)))
    (l26 : K.lookup f26 = some ⟨oc26, od26, .func (PySem.W.fnOf "with_reader" "with_reader" (defArgs sWithR) (defBody sWithR) (defScope sWithR) .none kV26 dc26 pm26 an26 cd26 ct26), sl26⟩)
    (c26 : PySem.W.codeIn K cd26 "with_reader" = true)
    (k26 : PySem.W.keepIn K (.ref f26) = true)
    (a27 : PySem.W.nsIn K mainGlobals "with_demand" = some (some (.ref f27)))
    (l27 : K.lookup f27 = some ⟨oc27, od27, .func (PySem.W.fnOf "with_demand" "with_demand" (defArgs sWithD) (defBody sWithD) (defScope sWithD) .none kV27 dc27 pm27 an27 cd27 ct27), sl27⟩)
    (c27 : PySem.W.codeIn K cd27 "with_demand" = true)
    (k27 : PySem.W.keepIn K (.ref f27) = true)
    (a28 : PySem.W.nsIn K mainGlobals "greatest_lack" = some (some (.ref f28)))
    (l28 : K.lookup f28 = some ⟨oc28, od28, .func (PySem.W.fnOf "greatest_lack" "greatest_lack" (defArgs sGrL) (defBody sGrL) (defScope sGrL) .none kV28 dc28 pm28 an28 cd28 ct28), sl28⟩)
    (c28 : PySem.W.codeIn K cd28 "greatest_lack" = true)
    (k28 : PySem.W.keepIn K (.ref f28) = true)
    (a29 : PySem.W.nsIn K mainGlobals "least_tight" = some (some (.ref f29)))
    (l29 : K.lookup f29 = some ⟨oc29, od29, .func (PySem.W.fnOf "least_tight" "least_tight" (defArgs sLT) (defBody sLT) (defScope sLT) .none kV29 dc29 pm29 an29 cd29 ct29), sl29⟩)
    (c29 : PySem.W.codeIn K cd29 "least_tight" = true)
    (k29 : PySem.W.keepIn K (.ref f29) = true)
    (a30 : PySem.W.nsIn K mainGlobals "are_good_rows" = some (some (.ref f30)))
    (l30 : K.lookup f30 = some ⟨oc30, od30, .func (PySem.W.fnOf "are_good_rows" "are_good_rows" (defArgs sAreG) (defBody sAreG) (defScope sAreG) .none kV30 dc30 pm30 an30 cd30 ct30), sl30⟩)
    (c30 : PySem.W.codeIn K cd30 "are_good_rows" = true)
    (k30 : PySem.W.keepIn K (.ref f30) = true)
    (a31 : PySem.W.nsIn K mainGlobals "can_read" = some (some (.ref f31)))
    (l31 : K.lookup f31 = some ⟨oc31, od31, .func (PySem.W.fnOf "can_read" "can_read" (defArgs sCanR) (defBody sCanR) (defScope sCanR) .none kV31 dc31 pm31 an31 cd31 ct31), sl31⟩)
    (c31 : PySem.W.codeIn K cd31 "can_read" = true)
    (k31 : PySem.W.keepIn K (.ref f31) = true)
    (a32 : PySem.W.nsIn K mainGlobals "can_leave" = some (some (.ref f32)))
    (l32 : K.lookup f32 = some ⟨oc32, od32, .func (PySem.W.fnOf "can_leave" "can_leave" (defArgs sCanL) (defBody sCanL) (defScope sCanL) .none kV32 dc32 pm32 an32 cd32 ct32), sl32⟩)
    (c32 : PySem.W.codeIn K cd32 "can_leave" = true)
    (k32 : PySem.W.keepIn K (.ref f32) = true)
    (a33 : PySem.W.nsIn K mainGlobals "pair" = some (some (.ref f33)))
    (l33 : K.lookup f33 = some ⟨oc33, od33, .func (PySem.W.fnOf "pair" "pair" (defArgs sPair) (defBody sPair) (defScope sPair) .none kV33 dc33 pm33 an33 cd33 ct33), sl33⟩)
    (c33 : PySem.W.codeIn K cd33 "pair" = true)
    (k33 : PySem.W.keepIn K (.ref f33) = true)
    (a34 : PySem.W.nsIn K mainGlobals "readings" = some (some (.ref f34)))
    (l34 : K.lookup f34 = some ⟨oc34, od34, .func (PySem.W.fnOf "readings" "readings" (defArgs sReadg) (defBody sReadg) (defScope sReadg) .none kV34 dc34 pm34 an34 cd34 ct34), sl34⟩)
    (c34 : PySem.W.codeIn K cd34 "readings" = true)
    (k34 : PySem.W.keepIn K (.ref f34) = true)
    (a35 : PySem.W.nsIn K mainGlobals "good_with" = some (some (.ref f35)))
    (l35 : K.lookup f35 = some ⟨oc35, od35, .func (PySem.W.fnOf "good_with" "good_with" (defArgs sGoodW) (defBody sGoodW) (defScope sGoodW) .none kV35 dc35 pm35 an35 cd35 ct35), sl35⟩)
    (c35 : PySem.W.codeIn K cd35 "good_with" = true)
    (k35 : PySem.W.keepIn K (.ref f35) = true)
    (a36 : PySem.W.nsIn K mainGlobals "_law_short_of" = some (some (.ref f36)))
    (l36 : K.lookup f36 = some ⟨oc36, od36, .func (PySem.W.fnOf "_law_short_of" "_law_short_of" (defArgs sLSO) (defBody sLSO) (defScope sLSO) .none kV36 dc36 pm36 an36 cd36 ct36), sl36⟩)
    (c36 : PySem.W.codeIn K cd36 "_law_short_of" = true)
    (k36 : PySem.W.keepIn K (.ref f36) = true)
    (a37 : PySem.W.nsIn K mainGlobals "_law_of_a_ring" = some (some (.ref f37)))
    (l37 : K.lookup f37 = some ⟨oc37, od37, .func (PySem.W.fnOf "_law_of_a_ring" "_law_of_a_ring" (defArgs sRing) (defBody sRing) (defScope sRing) .none kV37 dc37 pm37 an37 cd37 ct37), sl37⟩)
    (c37 : PySem.W.codeIn K cd37 "_law_of_a_ring" = true)
    (k37 : PySem.W.keepIn K (.ref f37) = true)
    (a38 : PySem.W.nsIn K mainGlobals "_law_of_short_ones" = some (some (.ref f38)))
    (l38 : K.lookup f38 = some ⟨oc38, od38, .func (PySem.W.fnOf "_law_of_short_ones" "_law_of_short_ones" (defArgs sShorts) (defBody sShorts) (defScope sShorts) .none kV38 dc38 pm38 an38 cd38 ct38), sl38⟩)
    (c38 : PySem.W.codeIn K cd38 "_law_of_short_ones" = true)
    (k38 : PySem.W.keepIn K (.ref f38) = true)
    (a39 : PySem.W.nsIn K mainGlobals "law" = some (some (.ref f39)))
    (l39 : K.lookup f39 = some ⟨oc39, od39, .func (PySem.W.fnOf "law" "law" (defArgs sLaw) (defBody sLaw) (defScope sLaw) .none kV39 dc39 pm39 an39 cd39 ct39), sl39⟩)
    (c39 : PySem.W.codeIn K cd39 "law" = true)
    (k39 : PySem.W.keepIn K (.ref f39) = true)
    (aC : PySem.W.nsIn K mainGlobals "Book" = some (some (.ref C)))
    (am1 : PySem.W.findIn K (.ref C) "__init__" = some (some (.ref fm1)))
    (im1 : PySem.W.isFn K (.ref fm1) = true)
    (lm1 : K.lookup fm1 = some ⟨ocm1, odm1, .func (PySem.W.fnOf "__init__" "Book.__init__" (defArgs sBkInit) (defBody sBkInit) (defScope sBkInit) .none kVm1 dcm1 pmm1 anm1 cdm1 ctm1), slm1⟩)
    (cm1 : PySem.W.codeIn K cdm1 "Book.__init__" = true)
    (km1 : PySem.W.keepIn K (.ref fm1) = true)
    (am2 : PySem.W.findIn K (.ref C) "demands" = some (some (.ref fm2)))
    (im2 : PySem.W.isFn K (.ref fm2) = true)
    (lm2 : K.lookup fm2 = some ⟨ocm2, odm2, .func (PySem.W.fnOf "demands" "Book.demands" (defArgs sBkDem) (defBody sBkDem) (defScope sBkDem) .none kVm2 dcm2 pmm2 anm2 cdm2 ctm2), slm2⟩)
    (cm2 : PySem.W.codeIn K cdm2 "Book.demands" = true)
    (km2 : PySem.W.keepIn K (.ref fm2) = true)
    (am3 : PySem.W.findIn K (.ref C) "readers" = some (some (.ref fm3)))
    (im3 : PySem.W.isFn K (.ref fm3) = true)
    (lm3 : K.lookup fm3 = some ⟨ocm3, odm3, .func (PySem.W.fnOf "readers" "Book.readers" (defArgs sBkRd) (defBody sBkRd) (defScope sBkRd) .none kVm3 dcm3 pmm3 anm3 cdm3 ctm3), slm3⟩)
    (cm3 : PySem.W.codeIn K cdm3 "Book.readers" = true)
    (km3 : PySem.W.keepIn K (.ref fm3) = true)
    (am4 : PySem.W.findIn K (.ref C) "__eq__" = some (some (.ref fm4)))
    (im4 : PySem.W.isFn K (.ref fm4) = true)
    (lm4 : K.lookup fm4 = some ⟨ocm4, odm4, .func (PySem.W.fnOf "__eq__" "Book.__eq__" (defArgs sBkEq) (defBody sBkEq) (defScope sBkEq) .none kVm4 dcm4 pmm4 anm4 cdm4 ctm4), slm4⟩)
    (cm4 : PySem.W.codeIn K cdm4 "Book.__eq__" = true)
    (km4 : PySem.W.keepIn K (.ref fm4) = true)
    (am5 : PySem.W.findIn K (.ref C) "__len__" = some (some (.ref fm5)))
    (im5 : PySem.W.isFn K (.ref fm5) = true)
    (lm5 : K.lookup fm5 = some ⟨ocm5, odm5, .func (PySem.W.fnOf "__len__" "Book.__len__" (defArgs sLenB) (defBody sLenB) (defScope sLenB) .none kVm5 dcm5 pmm5 anm5 cdm5 ctm5), slm5⟩)
    (cm5 : PySem.W.codeIn K cdm5 "Book.__len__" = true)
    (km5 : PySem.W.keepIn K (.ref fm5) = true)
    (pg : PySem.W.plainGet K C Str.empty = true)
    (hd : PySem.W.hasDictIn K C = true)
    (po : PySem.W.plainOver K C = true)
    (sa : PySem.W.findIn K (.ref C) "__setattr__" = some (some (.builtin "object.__setattr__")))
    (mk : PySem.W.makesIn K C = true)
    (kc : PySem.W.keepIn K (.ref C) = true)
    (nD : PySem.W.findIn K (.ref C) "_demands" = some none)
    (nR : PySem.W.findIn K (.ref C) "_readers" = some none)
    (ha : PySem.W.findIn K (.ref C) "__class__" = some (some (.builtin "object.__class__")))
    (hn : PySem.W.specialIn K (.builtin "object.__class__") "__get__" = some (some (.builtin "getset_descriptor.__get__")))
    (htk : PySem.W.takesIn K (.builtin "object.__class__") = some true)
    (hm : PySem.W.mroIn K C (.type "object") = some true)
    (me : PySem.W.kitOne K (.ref C) (.ref C) = some true)
    (t0 : PySem.W.kitOne K (.type "NoneType") (.ref C) = some false)
    (u0 : PySem.W.subIn K (.type "NoneType") (.ref C) = some false)
    (t1 : PySem.W.kitOne K (.type "bool") (.ref C) = some false)
    (u1 : PySem.W.subIn K (.type "bool") (.ref C) = some false)
    (t2 : PySem.W.kitOne K (.type "int") (.ref C) = some false)
    (u2 : PySem.W.subIn K (.type "int") (.ref C) = some false)
    (t3 : PySem.W.kitOne K (.type "str") (.ref C) = some false)
    (u3 : PySem.W.subIn K (.type "str") (.ref C) = some false)
    (t4 : PySem.W.kitOne K (.type "list") (.ref C) = some false)
    (u4 : PySem.W.subIn K (.type "list") (.ref C) = some false)
    (t5 : PySem.W.kitOne K (.type "tuple") (.ref C) = some false)
    (u5 : PySem.W.subIn K (.type "tuple") (.ref C) = some false)
    (t6 : PySem.W.kitOne K (.type "dict") (.ref C) = some false)
    (u6 : PySem.W.subIn K (.type "dict") (.ref C) = some false)
    (z0 : PySem.W.nsIn K mainGlobals "len" = some none)
    (z1 : PySem.W.nsIn K mainGlobals "range" = some none)
    (z2 : PySem.W.nsIn K mainGlobals "list" = some none)
    (z3 : PySem.W.nsIn K mainGlobals "tuple" = some none)
    (z4 : PySem.W.nsIn K mainGlobals "int" = some none)
    (z5 : PySem.W.nsIn K mainGlobals "bool" = some none)
    (z6 : PySem.W.nsIn K mainGlobals "abs" = some none)
    (z7 : PySem.W.nsIn K mainGlobals "max" = some none)
    (z8 : PySem.W.nsIn K mainGlobals "min" = some none)
    (z9 : PySem.W.nsIn K mainGlobals "sorted" = some none)
    (z10 : PySem.W.nsIn K mainGlobals "enumerate" = some none)
    (z11 : PySem.W.nsIn K mainGlobals "isinstance" = some none)
    (z12 : PySem.W.nsIn K mainGlobals "all" = some none)
    (z13 : PySem.W.nsIn K mainGlobals "sum" = some none)
    (z14 : PySem.W.nsIn K mainGlobals "zip" = some none)
    (z15 : PySem.W.nsIn K mainGlobals "repr" = some none)
    (eA : PySem.W.nsIn K mainGlobals "Short" = some (some (.ref BB)))
    (eR : PySem.W.nsIn K mainGlobals "ReadError" = some (some (.ref RE)))
    (eL : K.lookup BB = some (excClassObj enm eq BB eN ebs [.ref RE, .type "ValueError", .type "Exception", .type "BaseException", .type "object"] true esn esub eab ecol edd em0 em1 em2 em3 em5 "ValueError.__new__"))
    (eS : PySem.W.findIn K (.ref BB) "__setattr__" = some (some (.builtin "object.__setattr__")))
    (eX : PySem.W.subIn K (.ref BB) (.type "BaseException") = some true)
    (eT : PySem.W.typeIn K (.ref BB) = some (.type "type"))
    (eK : PySem.W.keepIn K (.ref BB) = true)
    (eI : PySem.W.findIn K (.ref BB) "__init__" = some (some (.ref fe1)))
    (eF : PySem.W.typeIn K (.ref fe1) = some (.type "function"))
    (le1 : K.lookup fe1 = some ⟨oce1, ode1, .func (PySem.W.fnOf "__init__" "Short.__init__" (defArgs sShI) (defBody sShI) (defScope sShI) .none kVe1 dce1 pme1 ane1 cde1 cte1), sle1⟩)
    (ce1 : PySem.W.codeIn K cde1 "Short.__init__" = true)
    (ke1 : PySem.W.keepIn K (.ref fe1) = true)
    (eg : PySem.W.specialIn K (.ref RE) "__getattribute__" = some (some (.builtin "type.__getattribute__")))
    (er : PySem.W.readsIn K RE (.type "type") = true)
    (ef : PySem.W.findCls K (.ref RE) (.type "type") "__init__" = some (.val (.builtin "ValueError.__init__")))
    (eP : PySem.W.findIn K (.ref BB) "works" = some none)
    (eG : PySem.W.findIn K (.ref BB) "__getattribute__" = some (some (.builtin "BaseException.__getattribute__")))
    (eg2 : PySem.W.findIn K (.ref BB) "__getattr__" = some none)
    (eH : PySem.W.hasDictIn K BB = true)
    (eC : PySem.W.isClsIn K BB = true)
    (eZ : PySem.W.subIn K (.ref BB) (.ref BB) = some true)
    (g0x : PySem.W.nsIn K mainGlobals "GREATEST_AMOUNT" = some (some (.int 6 g0)))
    (g1x : PySem.W.nsIn K mainGlobals "MOST_WORKS" = some (some (.int 6 g1)))
    (g2x : PySem.W.nsIn K mainGlobals "MOST_READERS" = some (some (.int 6 g2)))
    {cg tb : Addr} (hz : ∀ (g : Addr) (o : Obj) (fdz : FuncData), mg "greatest_lack" = some (.ref g) → h.get? g = some o → o.data = .func fdz → fdz.code = .ref cg) :
    ∃ fd : FuncData, (∀ (s : Shared) (v : Value), BindsTo s fd ⟨[v], []⟩ [("script", v)]) ∧ ∀ base : Heap, K.In base → base.Ns mainGlobals mg → LamX.TabB base mg cg tb → FnOkG l.prog w K mg base 13 fa fd ["script"] (spLawT K tb) := by
  have e := hfa.symm.trans (PySem.W.mg_of X G a39)
  cases e
  have ecd : cd28 = .ref cg := hz _ _ _ (PySem.W.mg_of X G a28) (X _ _ l28) rfl
  subst ecd
  have F1 := fun_mk (st := sIsInt) l1 c1 k1
  have b1 := F1.binds (ps := ["value"]) fun _ _ _ _ _ _ us hl => match us, hl with | [_], _ => rfl
  have F2 := fun_mk (st := sIsAmt) l2 c2 k2
  have b2 := F2.binds (ps := ["value"]) fun _ _ _ _ _ _ us hl => match us, hl with | [_], _ => rfl
  have F3 := fun_mk (st := sIsAsc) l3 c3 k3
  have b3 := F3.binds (ps := ["value", "many"]) fun _ _ _ _ _ _ us hl => match us, hl with | [_, _], _ => rfl
  have F4 := fun_mk (st := sAreDem) l4 c4 k4
  have b4 := F4.binds (ps := ["value"]) fun _ _ _ _ _ _ us hl => match us, hl with | [_], _ => rfl
  have F5 := fun_mk (st := sIsRd) l5 c5 k5
  have b5 := F5.binds (ps := ["value", "many"]) fun _ _ _ _ _ _ us hl => match us, hl with | [_, _], _ => rfl
  have F6 := fun_mk (st := sFeed) l6 c6 k6
  have b6 := F6.binds (ps := ["script", "k"]) fun _ _ _ _ _ _ us hl => match us, hl with | [_, _], _ => rfl
  have F7 := fun_mk (st := sTake) l7 c7 k7
  have b7 := F7.binds (ps := ["feed", "many"]) fun _ _ _ _ _ _ us hl => match us, hl with | [_, _], _ => rfl
  have F8 := fun_mk (st := sPresent) l8 c8 k8
  have b8 := F8.binds (ps := ["book", "absent"]) fun _ _ _ _ _ _ us hl => match us, hl with | [_, _], _ => rfl
  have F9 := fun_mk (st := sFree) l9 c9 k9
  have b9 := F9.binds (ps := ["book", "rows", "reader"]) fun _ _ _ _ _ _ us hl => match us, hl with | [_, _, _], _ => rfl
  have F10 := fun_mk (st := sCanT) l10 c10 k10
  have b10 := F10.binds (ps := ["book", "rows", "reader", "work"]) fun _ _ _ _ _ _ us hl => match us, hl with | [_, _, _, _], _ => rfl
  have F11 := fun_mk (st := sTakers) l11 c11 k11
  have b11 := F11.binds (ps := ["book", "rows", "absent", "work"]) fun _ _ _ _ _ _ us hl => match us, hl with | [_, _, _, _], _ => rfl
  have F12 := fun_mk (st := sLoose) l12 c12 k12
  have b12 := F12.binds (ps := ["kept", "rows", "reader"]) fun _ _ _ _ _ _ us hl => match us, hl with | [_, _, _], _ => rfl
  have F13 := fun_mk (st := sStep) l13 c13 k13
  have b13 := F13.binds (ps := ["book", "kept", "rows", "absent", "work"]) fun _ _ _ _ _ _ us hl => match us, hl with | [_, _, _, _, _], _ => rfl
  have F14 := fun_mk (st := sCount) l14 c14 k14
  have b14 := F14.binds (ps := ["book", "rows", "reader", "works"]) fun _ _ _ _ _ _ us hl => match us, hl with | [_, _, _, _], _ => rfl
  have F15 := fun_mk (st := sShort) l15 c15 k15
  have b15 := F15.binds (ps := ["book", "rows", "absent", "works"]) fun _ _ _ _ _ _ us hl => match us, hl with | [_, _, _, _], _ => rfl
  have F16 := fun_mk (st := sTRead) l16 c16 k16
  have b16 := F16.binds (ps := ["book", "rows", "absent"]) fun _ _ _ _ _ _ us hl => match us, hl with | [_, _, _], _ => rfl
  have F17 := fun_mk (st := sWithout) l17 c17 k17
  have b17 := F17.binds (ps := ["rows", "absent"]) fun _ _ _ _ _ _ us hl => match us, hl with | [_, _], _ => rfl
  have F18 := fun_mk (st := sSetsW) l18 c18 k18
  have b18 := F18.binds (ps := ["many"]) fun _ _ _ _ _ _ us hl => match us, hl with | [_], _ => rfl
  have F19 := fun_mk (st := sWalked) l19 c19 k19
  have b19 := F19.binds (ps := ["rows", "chain"]) fun _ _ _ _ _ _ us hl => match us, hl with | [_, _], _ => rfl
  have F20 := fun_mk (st := sExtended) l20 c20 k20
  have b20 := F20.binds (ps := ["book", "rows", "absent"]) fun _ _ _ _ _ _ us hl => match us, hl with | [_, _, _], _ => rfl
  have F21 := fun_mk (st := sExtension) l21 c21 k21
  have b21 := F21.binds (ps := ["book", "rows", "absent"]) fun _ _ _ _ _ _ us hl => match us, hl with | [_, _, _], _ => rfl
  have F22 := fun_mk (st := sNobody) l22 c22 k22
  have b22 := F22.binds (ps := ["book"]) fun _ _ _ _ _ _ us hl => match us, hl with | [_], _ => rfl
  have F23 := fun_mk (st := sGoodRows) l23 c23 k23
  have b23 := F23.binds (ps := ["book", "absent"]) fun _ _ _ _ _ _ us hl => match us, hl with | [_, _], _ => rfl
  have F24 := fun_mk (st := sSome) l24 c24 k24
  have b24 := F24.binds (ps := ["book", "absent"]) fun _ _ _ _ _ _ us hl => match us, hl with | [_, _], _ => rfl
  have F25 := fun_mk (st := sLack) l25 c25 k25
  have b25 := F25.binds (ps := ["book", "rows", "readers", "works"]) fun _ _ _ _ _ _ us hl => match us, hl with | [_, _, _, _], _ => rfl
  have F26 := fun_mk (st := sWithR) l26 c26 k26
  have b26 := F26.binds (ps := ["book", "reader", "limit", "may"]) fun _ _ _ _ _ _ us hl => match us, hl with | [_, _, _, _], _ => rfl
  have F27 := fun_mk (st := sWithD) l27 c27 k27
  have b27 := F27.binds (ps := ["book", "work", "demand"]) fun _ _ _ _ _ _ us hl => match us, hl with | [_, _, _], _ => rfl
  have F28 := fun_mk (st := sGrL) l28 c28 k28
  have b28 := F28.binds (ps := ["book", "rows", "readers"]) fun _ _ _ _ _ _ us hl => match us, hl with | [_, _, _], _ => rfl
  have F29 := fun_mk (st := sLT) l29 c29 k29
  have b29 := F29.binds (ps := ["book", "absent", "work"]) fun _ _ _ _ _ _ us hl => match us, hl with | [_, _, _], _ => rfl
  have F30 := fun_mk (st := sAreG) l30 c30 k30
  have b30 := F30.binds (ps := ["book", "absent"]) fun _ _ _ _ _ _ us hl => match us, hl with | [_, _], _ => rfl
  have F31 := fun_mk (st := sCanR) l31 c31 k31
  have b31 := F31.binds (ps := ["book", "absent", "reader", "work"]) fun _ _ _ _ _ _ us hl => match us, hl with | [_, _, _, _], _ => rfl
  have F32 := fun_mk (st := sCanL) l32 c32 k32
  have b32 := F32.binds (ps := ["book", "absent", "reader", "work"]) fun _ _ _ _ _ _ us hl => match us, hl with | [_, _, _, _], _ => rfl
  have F33 := fun_mk (st := sPair) l33 c33 k33
  have b33 := F33.binds (ps := ["book", "absent", "reader", "work"]) fun _ _ _ _ _ _ us hl => match us, hl with | [_, _, _, _], _ => rfl
  have F34 := fun_mk (st := sReadg) l34 c34 k34
  have b34 := F34.binds (ps := ["book", "absent", "reader"]) fun _ _ _ _ _ _ us hl => match us, hl with | [_, _, _], _ => rfl
  have F35 := fun_mk (st := sGoodW) l35 c35 k35
  have b35 := F35.binds (ps := ["book", "absent", "reader", "works"]) fun _ _ _ _ _ _ us hl => match us, hl with | [_, _, _, _], _ => rfl
  have F36 := fun_mk (st := sLSO) l36 c36 k36
  have b36 := F36.binds (ps := ["book", "absent"]) fun _ _ _ _ _ _ us hl => match us, hl with | [_, _], _ => rfl
  have F37 := fun_mk (st := sRing) l37 c37 k37
  have b37 := F37.binds (ps := ["limit"]) fun _ _ _ _ _ _ us hl => match us, hl with | [_], _ => rfl
  have F38 := fun_mk (st := sShorts) l38 c38 k38
  have b38 := F38.binds (ps := ["limit"]) fun _ _ _ _ _ _ us hl => match us, hl with | [_], _ => rfl
  have F39 := fun_mk (st := sLaw) l39 c39 k39
  have b39 := F39.binds (ps := ["script"]) fun _ _ _ _ _ _ us hl => match us, hl with | [_], _ => rfl
  have Fm1 := fun_mk (st := sBkInit) lm1 cm1 km1
  have bm1 := Fm1.binds (ps := ["self", "demands", "readers"]) fun _ _ _ _ _ _ us hl => match us, hl with | [_, _, _], _ => rfl
  have Fm2 := fun_mk (st := sBkDem) lm2 cm2 km2
  have bm2 := Fm2.binds (ps := ["self"]) fun _ _ _ _ _ _ us hl => match us, hl with | [_], _ => rfl
  have Fm3 := fun_mk (st := sBkRd) lm3 cm3 km3
  have bm3 := Fm3.binds (ps := ["self"]) fun _ _ _ _ _ _ us hl => match us, hl with | [_], _ => rfl
  have Fm4 := fun_mk (st := sBkEq) lm4 cm4 km4
  have bm4 := Fm4.binds (ps := ["self", "other"]) fun _ _ _ _ _ _ us hl => match us, hl with | [_, _], _ => rfl
  have Fm5 := fun_mk (st := sLenB) lm5 cm5 km5
  have bm5 := Fm5.binds (ps := ["self"]) fun _ _ _ _ _ _ us hl => match us, hl with | [_], _ => rfl
  have B : Bi mg := ⟨PySem.W.mg_none_of X G z0, PySem.W.mg_none_of X G z1, PySem.W.mg_none_of X G z2, PySem.W.mg_none_of X G z3, PySem.W.mg_none_of X G z4, PySem.W.mg_none_of X G z5, PySem.W.mg_none_of X G z6, PySem.W.mg_none_of X G z7, PySem.W.mg_none_of X G z8, PySem.W.mg_none_of X G z9, PySem.W.mg_none_of X G z10, PySem.W.mg_none_of X G z11, PySem.W.mg_none_of X G z12, PySem.W.mg_none_of X G z13, PySem.W.mg_none_of X G z14, PySem.W.mg_none_of X G z15⟩
  have V1 : Vals1 K mg := ⟨B, ⟨_, PySem.W.mg_of X G g0x⟩, ⟨_, PySem.W.mg_of X G g1x⟩, ⟨_, PySem.W.mg_of X G g2x⟩, ⟨_, _, F1, b1, PySem.W.mg_of X G a1⟩, ⟨_, _, F2, b2, PySem.W.mg_of X G a2⟩, ⟨_, _, F3, b3, PySem.W.mg_of X G a3⟩, ⟨_, _, F4, b4, PySem.W.mg_of X G a4⟩, ⟨_, _, F5, b5, PySem.W.mg_of X G a5⟩⟩
  have cl : Cls K C := ⟨pg, hd, po, sa⟩
  have TB0 : BookTxt K mg C := ⟨cl, nD, nR, PySem.W.mg_of X G aC, ⟨_, _, Fm1, bm1, ⟨mk, am1, im1, kc⟩⟩, ⟨_, _, Fm2, bm2, ⟨am2, im2, km2⟩⟩, ⟨_, _, Fm3, bm3, ⟨am3, im3, km3⟩⟩, ⟨_, _, Fm4, bm4, ⟨am4, im4, km4⟩⟩, ⟨cl, ha, hn, htk, hm, me⟩, by simp [PySem.W.notFirst]⟩
  have N : NoBook K C := by
    intro T hT
    simp only [List.mem_cons, List.not_mem_nil, or_false] at hT
    rcases hT with rfl | rfl | rfl | rfl | rfl | rfl | rfl
    · exact ⟨t0, notF u0⟩
    · exact ⟨t1, notF u1⟩
    · exact ⟨t2, notF u2⟩
    · exact ⟨t3, notF u3⟩
    · exact ⟨t4, notF u4⟩
    · exact ⟨t5, notF u5⟩
    · exact ⟨t6, notF u6⟩
  have Fe1 := fun_mk (st := sShI) le1 ce1 ke1
  have be1 := Fe1.binds (ps := ["self", "works"]) fun _ _ _ _ _ _ us hl => match us, hl with | [_, _], _ => rfl
  exact ⟨PySem.W.fnOf "law" "law" (defArgs sLaw) (defBody sLaw) (defScope sLaw) .none kV39 dc39 pm39 an39 cd39 ct39, fun s v => .of_eq rfl, fun base _ _ hTB => ok_law F39 (topR_of V1 TB0 N ⟨_, _, Fm5, bm5, ⟨am5, im5, km5⟩⟩ ⟨⟨⟨_, _, _, _, _, _, _, _, _, _, _, _, _, _, _, eL, (show PySem.HandSPX.refsVE [.type "ValueError", .type "Exception", .type "BaseException", .type "object"] = true by decide +kernel)⟩, eS, eX, eT, eK⟩, ⟨_, _, Fe1, be1, eI, eF⟩, PySem.W.mg_of X G eA, PySem.W.mg_of X G eR, eg, er, ef, eP, ⟨eG, eg2, eX, eH⟩, exm_self eX eC eT eZ⟩  ⟨_, _, F6, b6, PySem.W.mg_of X G a6⟩ ⟨_, _, F7, b7, PySem.W.mg_of X G a7⟩ ⟨_, _, F8, b8, PySem.W.mg_of X G a8⟩ ⟨_, _, F9, b9, PySem.W.mg_of X G a9⟩ ⟨_, _, F10, b10, PySem.W.mg_of X G a10⟩ ⟨_, _, F11, b11, PySem.W.mg_of X G a11⟩ ⟨_, _, F12, b12, PySem.W.mg_of X G a12⟩ ⟨_, _, F13, b13, PySem.W.mg_of X G a13⟩ ⟨_, _, F14, b14, PySem.W.mg_of X G a14⟩ ⟨_, _, F15, b15, PySem.W.mg_of X G a15⟩ ⟨_, _, F16, b16, PySem.W.mg_of X G a16⟩ ⟨_, _, F17, b17, PySem.W.mg_of X G a17⟩ ⟨_, _, F18, b18, PySem.W.mg_of X G a18⟩ ⟨_, _, F19, b19, PySem.W.mg_of X G a19⟩ ⟨_, _, F20, b20, PySem.W.mg_of X G a20⟩ ⟨_, _, F21, b21, PySem.W.mg_of X G a21⟩ ⟨_, _, F22, b22, PySem.W.mg_of X G a22⟩ ⟨_, _, F23, b23, PySem.W.mg_of X G a23⟩ ⟨_, _, F24, b24, PySem.W.mg_of X G a24⟩ ⟨_, _, F25, b25, PySem.W.mg_of X G a25⟩ ⟨_, _, F26, b26, PySem.W.mg_of X G a26⟩ ⟨_, _, F27, b27, PySem.W.mg_of X G a27⟩ ⟨⟨_, cg, _, _, _, _, _, _, _, _, _, rfl, l28, c28, k28, b28, PySem.W.mg_of X G a28, hTB⟩⟩ ⟨_, _, F29, b29, PySem.W.mg_of X G a29⟩ ⟨_, _, F30, b30, PySem.W.mg_of X G a30⟩ ⟨_, _, F31, b31, PySem.W.mg_of X G a31⟩ ⟨_, _, F32, b32, PySem.W.mg_of X G a32⟩ ⟨_, _, F33, b33, PySem.W.mg_of X G a33⟩ ⟨_, _, F34, b34, PySem.W.mg_of X G a34⟩ ⟨_, _, F35, b35, PySem.W.mg_of X G a35⟩ ⟨_, _, F36, b36, PySem.W.mg_of X G a36⟩ ⟨_, _, F37, b37, PySem.W.mg_of X G a37⟩ ⟨_, _, F38, b38, PySem.W.mg_of X G a38⟩)⟩
end Ew
open PySem PySem.W PyProof.Rows in
set_option maxRecDepth 100000 in
set_option maxHeartbeats 0 in
theorem PySem.Challenge.cw_eachworkread_k32_known_good_rows_holds : PySem.Challenge.rw_eachworkread_k32_known_good_rows.Holds := by
  w_on; o_law; k_head; (case hw => w_witness2)
  k_fill
  refine Ew.walk_ofGT (l := PySem.Challenge.rw_eachworkread_k32_known_good_rows) (n := 63) (k := 13) (x := "script") (z := "greatest_lack") (sp := fun w tb => Ew.spLawT _ tb) rfl (by decide) rfl ⟨rfl, by decide, by decide⟩ (by decide +kernel) (fun p => by kernel_rfl) (fun w h Y => PySem.W.km_in_of Y) ?F (fun _ _ a tb ns hl hT hS => ⟨a, ns, rfl, LamX.TabS.nil hT, hS, hl, fun _ => rfl⟩)
  case F =>
    intro w mg fa h cg tb KX G hmg hz
    refine' Ew.all_mk KX G hmg ?a1 ?l1 ?c1 ?k1 ?a2 ?l2 ?c2 ?k2 ?a3 ?l3 ?c3 ?k3 ?a4 ?l4 ?c4 ?k4 ?a5 ?l5 ?c5 ?k5 ?a6 ?l6 ?c6 ?k6 ?a7 ?l7 ?c7 ?k7 ?a8 ?l8 ?c8 ?k8 ?a9 ?l9 ?c9 ?k9 ?a10 ?l10 ?c10 ?k10 ?a11 ?l11 ?c11 ?k11 ?a12 ?l12 ?c12 ?k12 ?a13 ?l13 ?c13 ?k13 ?a14 ?l14 ?c14 ?k14 ?a15 ?l15 ?c15 ?k15 ?a16 ?l16 ?c16 ?k16 ?a17 ?l17 ?c17 ?k17 ?a18 ?l18 ?c18 ?k18 ?a19 ?l19 ?c19 ?k19 ?a20 ?l20 ?c20 ?k20 ?a21 ?l21 ?c21 ?k21 ?a22 ?l22 ?c22 ?k22 ?a23 ?l23 ?c23 ?k23 ?a24 ?l24 ?c24 ?k24 ?a25 ?l25 ?c25 ?k25 ?a26 ?l26 ?c26 ?k26 ?a27 ?l27 ?c27 ?k27 ?a28 ?l28 ?c28 ?k28 ?a29 ?l29 ?c29 ?k29 ?a30 ?l30 ?c30 ?k30 ?a31 ?l31 ?c31 ?k31 ?a32 ?l32 ?c32 ?k32 ?a33 ?l33 ?c33 ?k33 ?a34 ?l34 ?c34 ?k34 ?a35 ?l35 ?c35 ?k35 ?a36 ?l36 ?c36 ?k36 ?a37 ?l37 ?c37 ?k37 ?a38 ?l38 ?c38 ?k38 ?a39 ?l39 ?c39 ?k39 ?aC ?am1 ?im1 ?lm1 ?cm1 ?km1 ?am2 ?im2 ?lm2 ?cm2 ?km2 ?am3 ?im3 ?lm3 ?cm3 ?km3 ?am4 ?im4 ?lm4 ?cm4 ?km4 ?am5 ?im5 ?lm5 ?cm5 ?km5 ?pg ?hd ?po ?sa ?mk ?kc ?nD ?nR ?ha ?hn ?htk ?hm ?me ?t0 ?u0 ?t1 ?u1 ?t2 ?u2 ?t3 ?u3 ?t4 ?u4 ?t5 ?u5 ?t6 ?u6 ?z0 ?z1 ?z2 ?z3 ?z4 ?z5 ?z6 ?z7 ?z8 ?z9 ?z10 ?z11 ?z12 ?z13 ?z14 ?z15 ?eA ?eR ?eL ?eS ?eX ?eT ?eK ?eI ?eF ?le1 ?ce1 ?ke1 ?eg ?er ?ef ?eP ?eG ?eg2 ?eH ?eC ?eZ ?g0x ?g1x ?g2x hz
    (case a1 => k_is)
    (case l1 => k_is)
    (case c1 => k_is)
    (case k1 => k_is)
    (case a2 => k_is)
    (case l2 => k_is)
    (case c2 => k_is)
    (case k2 => k_is)
    (case a3 => k_is)
    (case l3 => k_is)
    (case c3 => k_is)
    (case k3 => k_is)
    (case a4 => k_is)
    (case l4 => k_is)
    (case c4 => k_is)
    (case k4 => k_is)
    (case a5 => k_is)
    (case l5 => k_is)
    (case c5 => k_is)
    (case k5 => k_is)
    (case a6 => k_is)
    (case l6 => k_is)
    (case c6 => k_is)
    (case k6 => k_is)
    (case a7 => k_is)
    (case l7 => k_is)
    (case c7 => k_is)
    (case k7 => k_is)
    (case a8 => k_is)
    (case l8 => k_is)
    (case c8 => k_is)
    (case k8 => k_is)
    (case a9 => k_is)
    (case l9 => k_is)
    (case c9 => k_is)
    (case k9 => k_is)
    (case a10 => k_is)
    (case l10 => k_is)
    (case c10 => k_is)
    (case k10 => k_is)
    (case a11 => k_is)
    (case l11 => k_is)
    (case c11 => k_is)
    (case k11 => k_is)
    (case a12 => k_is)
    (case l12 => k_is)
    (case c12 => k_is)
    (case k12 => k_is)
    (case a13 => k_is)
    (case l13 => k_is)
    (case c13 => k_is)
    (case k13 => k_is)
    (case a14 => k_is)
    (case l14 => k_is)
    (case c14 => k_is)
    (case k14 => k_is)
    (case a15 => k_is)
    (case l15 => k_is)
    (case c15 => k_is)
    (case k15 => k_is)
    (case a16 => k_is)
    (case l16 => k_is)
    (case c16 => k_is)
    (case k16 => k_is)
    (case a17 => k_is)
    (case l17 => k_is)
    (case c17 => k_is)
    (case k17 => k_is)
    (case a18 => k_is)
    (case l18 => k_is)
    (case c18 => k_is)
    (case k18 => k_is)
    (case a19 => k_is)
    (case l19 => k_is)
    (case c19 => k_is)
    (case k19 => k_is)
    (case a20 => k_is)
    (case l20 => k_is)
    (case c20 => k_is)
    (case k20 => k_is)
    (case a21 => k_is)
    (case l21 => k_is)
    (case c21 => k_is)
    (case k21 => k_is)
    (case a22 => k_is)
    (case l22 => k_is)
    (case c22 => k_is)
    (case k22 => k_is)
    (case a23 => k_is)
    (case l23 => k_is)
    (case c23 => k_is)
    (case k23 => k_is)
    (case a24 => k_is)
    (case l24 => k_is)
    (case c24 => k_is)
    (case k24 => k_is)
    (case a25 => k_is)
    (case l25 => k_is)
    (case c25 => k_is)
    (case k25 => k_is)
    (case a26 => k_is)
    (case l26 => k_is)
    (case c26 => k_is)
    (case k26 => k_is)
    (case a27 => k_is)
    (case l27 => k_is)
    (case c27 => k_is)
    (case k27 => k_is)
    (case a28 => k_is)
    (case l28 => k_is)
    (case c28 => k_is)
    (case k28 => k_is)
    (case a29 => k_is)
    (case l29 => k_is)
    (case c29 => k_is)
    (case k29 => k_is)
    (case a30 => k_is)
    (case l30 => k_is)
    (case c30 => k_is)
    (case k30 => k_is)
    (case a31 => k_is)
    (case l31 => k_is)
    (case c31 => k_is)
    (case k31 => k_is)
    (case a32 => k_is)
    (case l32 => k_is)
    (case c32 => k_is)
    (case k32 => k_is)
    (case a33 => k_is)
    (case l33 => k_is)
    (case c33 => k_is)
    (case k33 => k_is)
    (case a34 => k_is)
    (case l34 => k_is)
    (case c34 => k_is)
    (case k34 => k_is)
    (case a35 => k_is)
    (case l35 => k_is)
    (case c35 => k_is)
    (case k35 => k_is)
    (case a36 => k_is)
    (case l36 => k_is)
    (case c36 => k_is)
    (case k36 => k_is)
    (case a37 => k_is)
    (case l37 => k_is)
    (case c37 => k_is)
    (case k37 => k_is)
    (case a38 => k_is)
    (case l38 => k_is)
    (case c38 => k_is)
    (case k38 => k_is)
    (case a39 => k_is)
    (case l39 => k_is)
    (case c39 => k_is)
    (case k39 => k_is)
    (case aC => k_is)
    (case am1 => k_is)
    (case im1 => k_is)
    (case lm1 => k_is)
    (case cm1 => k_is)
    (case km1 => k_is)
    (case am2 => k_is)
    (case im2 => k_is)
    (case lm2 => k_is)
    (case cm2 => k_is)
    (case km2 => k_is)
    (case am3 => k_is)
    (case im3 => k_is)
    (case lm3 => k_is)
    (case cm3 => k_is)
    (case km3 => k_is)
    (case am4 => k_is)
    (case im4 => k_is)
    (case lm4 => k_is)
    (case cm4 => k_is)
    (case km4 => k_is)
    (case am5 => k_is)
    (case im5 => k_is)
    (case lm5 => k_is)
    (case cm5 => k_is)
    (case km5 => k_is)
    (case pg => k_is)
    (case hd => k_is)
    (case po => k_is)
    (case sa => k_is)
    (case mk => k_is)
    (case kc => k_is)
    (case nD => k_is)
    (case nR => k_is)
    (case ha => k_is)
    (case hn => k_is)
    (case htk => k_is)
    (case hm => k_is)
    (case me => kit_is)
    (case t0 => kit_is)
    (case u0 => k_is)
    (case t1 => kit_is)
    (case u1 => k_is)
    (case t2 => kit_is)
    (case u2 => k_is)
    (case t3 => kit_is)
    (case u3 => k_is)
    (case t4 => kit_is)
    (case u4 => k_is)
    (case t5 => kit_is)
    (case u5 => k_is)
    (case t6 => kit_is)
    (case u6 => k_is)
    (case z0 => k_is)
    (case z1 => k_is)
    (case z2 => k_is)
    (case z3 => k_is)
    (case z4 => k_is)
    (case z5 => k_is)
    (case z6 => k_is)
    (case z7 => k_is)
    (case z8 => k_is)
    (case z9 => k_is)
    (case z10 => k_is)
    (case z11 => k_is)
    (case z12 => k_is)
    (case z13 => k_is)
    (case z14 => k_is)
    (case z15 => k_is)
    (case eA => k_is)
    (case eR => k_is)
    (case eL => k_is)
    (case eS => k_is)
    (case eX => k_is)
    (case eT => k_is)
    (case eK => k_is)
    (case eI => k_is)
    (case eF => k_is)
    (case le1 => k_is)
    (case ce1 => k_is)
    (case ke1 => k_is)
    (case eg => k_is)
    (case er => k_is)
    (case ef => k_is)
    (case eP => k_is)
    (case eG => k_is)
    (case eg2 => k_is)
    (case eH => k_is)
    (case eC => k_is)
    (case eZ => first | rfl | k_is)
    (case g0x => k_is)
    (case g1x => k_is)
    (case g2x => k_is)
