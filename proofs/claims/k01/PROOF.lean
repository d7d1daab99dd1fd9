import PyProof.Rows.All
import Wide.All
import OpenK.AllK
import Wide.FinOn
import HandS.ForMost
import HandS.IsInst
import HandS.OwnEq
import HandS.Walk
import HandS.Codes
import HandS.RaiseMore
import HandS.Style
import HandS.NoneIn
import HandS.Rev
import HandS.TupAny
import PyProof.ReprRoads
import HandS.Conv
import HandS.Strs
import HandS.SetFor
import HandS.TupLe
import HandS.ExcInit
import HandS.ExcField
import HandS.ForExc
import PySem.Challenge.RW_eachworkread_k01_values_that_are_books
set_option Elab.async false
set_option linter.all false
set_option maxRecDepth 100000
/-! What all laws share: heaps, the feed, readers and rows as data. -/
namespace Ew
open PySem PySem.Spec PyProof.Rows L2
/-! ### heaps -/
/-- the feed at f: two ints -/
def FeedAt (H : Hp) (f : Addr) : Prop := ∃ d s : Int, H f = some (.lst [.int d, .int s])
/-- all but the feed is as it was -/
def Ext1 (f : Addr) (H H' : Hp) : Prop := (∀ b o, b ≠ f → H b = some o → H' b = some o) ∧ FeedAt H' f
theorem Ext1.refl {f : Addr} {H : Hp} (h : FeedAt H f) : Ext1 f H H := ⟨fun _ _ _ e => e, h⟩
theorem Ext1.trans {f : Addr} {H H1 H2 : Hp} (a : Ext1 f H H1) (b : Ext1 f H1 H2) : Ext1 f H H2 := ⟨fun c o n e => b.1 c o n (a.1 c o n e), b.2⟩
theorem Ext1.feed {f : Addr} {H H' : Hp} (a : Ext1 f H H') : FeedAt H' f := a.2
theorem Ext1.put {f : Addr} {H : Hp} {d s : Int} : Ext1 f H (upd H f (.lst [.int d, .int s])) := ⟨fun b o n e => by rw [upd_ne n]; exact e, d, s, upd_same⟩
theorem Ext1.new {f p : Addr} {H H1 : Hp} {o : HO} (a : Ext1 f H H1) (n : H1 p = none) : Ext1 f H (upd H1 p o) := by
  obtain ⟨d, s, e⟩ := a.2
  exact ⟨fun b u nb eb => by rw [upd_ne (ne_of_none (a.1 b u nb eb) n)]; exact a.1 b u nb eb, d, s, by rw [upd_ne (ne_of_none e n)]; exact e⟩
/-- an object that was not there may be written -/
theorem Ext1.own {f p : Addr} {H H1 : Hp} {o : HO} (a : Ext1 f H H1) (n : H p = none) (nf : p ≠ f) : Ext1 f H (upd H1 p o) := by
  obtain ⟨d, s, e⟩ := a.2
  refine ⟨fun b u nb eb => ?_, d, s, by rw [upd_ne (Ne.symm nf)]; exact e⟩
  have : b ≠ p := fun z => by rw [z, n] at eb; cases eb
  rw [upd_ne this]
  exact a.1 b u nb eb
theorem Ext1.same {f : Addr} {H H' : Hp} (h : FeedAt H f) (s : Same H H') : Ext1 f H H' := ⟨fun b o _ e => s b o e, let ⟨d, t, e⟩ := h; ⟨d, t, s _ _ e⟩⟩
theorem Ext1.free {f p : Addr} {H H' : Hp} (a : Ext1 f H H') (h : H' p = none) : H p = none := by
  cases q : H p with
  | none => rfl
  | some o =>
    by_cases e : p = f
    · subst e
      obtain ⟨d, s, z⟩ := a.2
      rw [z] at h; cases h
    · rw [a.1 _ _ e q] at h; cases h
theorem FeedAt.ne {H : Hp} {f p : Addr} (h : FeedAt H f) (n : H p = none) : p ≠ f := fun e => by
  obtain ⟨d, s, z⟩ := h
  rw [e, z] at n; cases n
section
variable {K : PySem.W.Frag} {f : Addr} {H H' : Hp}
theorem Ext1.sqT {t : Addr} {xs : List V} (a : Ext1 f H H') (hf : FeedAt H f) (h : SqT K H t xs) : SqT K H' t xs := by
  obtain ⟨d, s, z⟩ := hf
  rcases h with (h | ⟨o, h⟩) | h
  · exact .inl (.inl (a.1 _ _ (fun e => by rw [e, z] at h; cases h) h))
  · exact .inl (.inr ⟨o, a.1 _ _ (fun e => by rw [e, z] at h; cases h) h⟩)
  · exact .inr h
theorem Ext1.sqL {t : Addr} {xs : List V} (a : Ext1 f H H') (nf : t ≠ f) (h : SqL K H t xs) : SqL K H' t xs := by
  rcases h with (h | ⟨o, h⟩) | h
  · exact .inl (.inl (a.1 _ _ nf h))
  · exact .inl (.inr ⟨o, a.1 _ _ nf h⟩)
  · exact .inr h
theorem sameT {t : Addr} {xs : List V} (e : Same H H') (h : SqT K H t xs) : SqT K H' t xs := by
  rcases h with (h | ⟨o, h⟩) | h
  · exact .inl (.inl (e _ _ h))
  · exact .inl (.inr ⟨o, e _ _ h⟩)
  · exact .inr h
end
theorem sameU {H : Hp} {p : Addr} {o : HO} (h : H p = none) : Same H (upd H p o) := fun b x e => by
  rw [upd_ne (ne_of_none e h)]
  exact e
/-! ### rows and readers -/
/-- what is true of a set, a row: ascending, of numbers from 0 below n -/
def Asc (n : Int) (r : List Int) : Prop := r.Pairwise (· < ·) ∧ ∀ x ∈ r, 0 ≤ x ∧ x < n
/-- a tuple of ints -/
def RowT (K : PySem.W.Frag) (H : Hp) (v : V) (r : List Int) : Prop := ∃ t, v = .ref t ∧ SqT K H t (r.map V.int)
/-- a reader: limit, may -/
def RdT (K : PySem.W.Frag) (H : Hp) (v : V) (r : Int × List Int) : Prop := ∃ t m, v = .ref t ∧ SqT K H t [.int r.1, .ref m] ∧ SqT K H m (r.2.map V.int)
def RdOk (n : Int) (r : Int × List Int) : Prop := 0 ≤ r.1 ∧ r.1 ≤ 6 ∧ Asc n r.2
def RowOk (r : Int × List Int) (w : List Int) : Prop := w.Pairwise (· < ·) ∧ (∀ x ∈ w, x ∈ r.2) ∧ (w.length : Int) ≤ r.1
def RdL (K : PySem.W.Frag) (H : Hp) (a : Addr) (rs : List (Int × List Int)) : Prop := ∃ vs, SqL K H a vs ∧ Paired (RdT K H) vs rs
def RowL (K : PySem.W.Frag) (H : Hp) (a : Addr) (ws : List (List Int)) : Prop := ∃ vs, SqL K H a vs ∧ Paired (RowT K H) vs ws
section
variable {K : PySem.W.Frag} {f : Addr} {H H' : Hp}
theorem RowT.ext {v : V} {r : List Int} (a : Ext1 f H H') (hf : FeedAt H f) (h : RowT K H v r) : RowT K H' v r := let ⟨t, e, q⟩ := h; ⟨t, e, a.sqT hf q⟩
theorem RdT.ext {v : V} {r : Int × List Int} (a : Ext1 f H H') (hf : FeedAt H f) (h : RdT K H v r) : RdT K H' v r := let ⟨t, m, e, q, q2⟩ := h; ⟨t, m, e, a.sqT hf q, a.sqT hf q2⟩
theorem RowT.same {v : V} {r : List Int} (a : Same H H') (h : RowT K H v r) : RowT K H' v r := let ⟨t, e, q⟩ := h; ⟨t, e, sameT a q⟩
theorem RdT.same {v : V} {r : Int × List Int} (a : Same H H') (h : RdT K H v r) : RdT K H' v r := let ⟨t, m, e, q, q2⟩ := h; ⟨t, m, e, sameT a q, sameT a q2⟩
theorem RdL.ext {p : Addr} {rs : List (Int × List Int)} (a : Ext1 f H H') (hf : FeedAt H f) (nf : p ≠ f) (h : RdL K H p rs) : RdL K H' p rs := let ⟨vs, q, r⟩ := h; ⟨vs, a.sqL nf q, L2.Paired.mapP r fun _ _ z => z.ext a hf⟩
theorem RowL.ext {p : Addr} {rs : List (List Int)} (a : Ext1 f H H') (hf : FeedAt H f) (nf : p ≠ f) (h : RowL K H p rs) : RowL K H' p rs := let ⟨vs, q, r⟩ := h; ⟨vs, a.sqL nf q, L2.Paired.mapP r fun _ _ z => z.ext a hf⟩
theorem RdL.same {p : Addr} {rs : List (Int × List Int)} (a : Same H H') (h : RdL K H p rs) : RdL K H' p rs := let ⟨vs, q, r⟩ := h; ⟨vs, a.seq q, L2.Paired.mapP r fun _ _ z => z.same a⟩
theorem RowL.same {p : Addr} {rs : List (List Int)} (a : Same H H') (h : RowL K H p rs) : RowL K H' p rs := let ⟨vs, q, r⟩ := h; ⟨vs, a.seq q, L2.Paired.mapP r fun _ _ z => z.same a⟩
end
section
variable {K : PySem.W.Frag} {H : Hp} {D : Addr} {xs : List V} {o : HO}
/-- a list is written: tuples stand -/
theorem sqT_upd {t : Addr} {ys : List V} (e : H D = some (.lst xs)) (h : SqT K H t ys) : SqT K (upd H D o) t ys := by
  rcases h with (h | ⟨o', h⟩) | h
  · exact .inl (.inl (by rw [upd_ne (fun z => by rw [z, e] at h; cases h)]; exact h))
  · exact .inl (.inr ⟨o', by rw [upd_ne (fun z => by rw [z, e] at h; cases h)]; exact h⟩)
  · exact .inr h
theorem RowT.upd {v : V} {r : List Int} (e : H D = some (.lst xs)) (h : RowT K H v r) : RowT K (upd H D o) v r := let ⟨t, a, q⟩ := h; ⟨t, a, sqT_upd e q⟩
theorem RdT.upd {v : V} {r : Int × List Int} (e : H D = some (.lst xs)) (h : RdT K H v r) : RdT K (upd H D o) v r := let ⟨t, m, a, q, q2⟩ := h; ⟨t, m, a, sqT_upd e q, sqT_upd e q2⟩
end
theorem Paired.at1 {α β : Type} {R : α → β → Prop} : ∀ {xs : List α} {ys : List β} {i : Nat} {x : α}, Paired R xs ys → xs[i]? = some x → ∃ y, ys[i]? = some y ∧ R x y
  | _, _, _, _, .nil, e => by simp at e
  | _, _, 0, _, .cons r _, e => by simp at e; subst e; exact ⟨_, rfl, r⟩
  | _, _, i + 1, x, .cons _ t, e => by
    obtain ⟨u, h1, h2⟩ := Paired.at1 (i := i) (x := x) t (by simpa using e)
    exact ⟨u, by simpa using h1, h2⟩
theorem Paired.at2 {α β : Type} {R : α → β → Prop} : ∀ {xs : List α} {ys : List β} {i : Nat} {y : β}, Paired R xs ys → ys[i]? = some y → ∃ x, xs[i]? = some x ∧ R x y
  | _, _, _, _, .nil, e => by simp at e
  | _, _, 0, _, .cons r _, e => by simp at e; subst e; exact ⟨_, rfl, r⟩
  | _, _, i + 1, x, .cons _ t, e => by
    obtain ⟨u, h1, h2⟩ := Paired.at2 (i := i) (y := x) t (by simpa using e)
    exact ⟨u, by simpa using h1, h2⟩
theorem Paired.snoc {α β : Type} {R : α → β → Prop} : ∀ {xs : List α} {ys : List β} {x : α} {y : β}, Paired R xs ys → R x y → Paired R (xs ++ [x]) (ys ++ [y])
  | _, _, _, _, .nil, h => .cons h .nil
  | _, _, _, _, .cons r t, h => .cons r (Paired.snoc t h)
theorem Paired.set' {α β : Type} {R : α → β → Prop} {x : α} {y : β} : ∀ {xs : List α} {ys : List β} (n : Nat), Paired R xs ys → R x y → Paired R (xs.set n x) (ys.set n y)
  | _, _, _, .nil, _ => .nil
  | _, _, 0, .cons _ t, h => .cons h t
  | _, _, n + 1, .cons r t, h => .cons r (Paired.set' n t h)
/-! ### what of the built-in names the text leaves as it is -/
structure Bi (mg : Str → Option Value) : Prop where
  len : mg "len" = none
  range : mg "range" = none
  list : mg "list" = none
  tuple : mg "tuple" = none
  int : mg "int" = none
  bool : mg "bool" = none
  abs : mg "abs" = none
  max : mg "max" = none
  min : mg "min" = none
  sorted : mg "sorted" = none
  enumerate : mg "enumerate" = none
  isinstance : mg "isinstance" = none
  all : mg "all" = none
  sum : mg "sum" = none
  zip : mg "zip" = none
  repr : mg "repr" = none
theorem take_more {α : Type} : ∀ {l : List α} {i : Nat} {x : α}, l[i]? = some x → l.take (i + 1) = l.take i ++ [x]
  | [], i, x, h => by simp at h
  | a :: l, 0, x, h => by
    have e : a = x := Option.some.inj h
    subst e
    rfl
  | a :: l, i + 1, x, h => by
    have ih := take_more (l := l) (i := i) (x := x) h
    show a :: l.take (i + 1) = a :: l.take i ++ [x]
    rw [ih]
    rfl
theorem szL {n : Nat} (h : n ≤ 1000000) : n ≤ sizeLine := Nat.le_trans h (by decide)
theorem szl {n : Nat} (h : n ≤ 1000000) : n < sizeLine := Nat.lt_of_le_of_lt h (by decide)
end Ew
namespace Ew
open PySem PySem.Spec PyProof.Rows L2
/-! ### the text by places -/
def top (i : Nat) : Stmt := PySem.Challenge.pw_eachworkread_k01_values_that_are_books.main.body.getD i (.Pass ⟨0, 0, 0, 0⟩)
abbrev sFeed : Stmt := (top 15)
abbrev sTake : Stmt := (top 16)
abbrev sPick : Stmt := (top 17)
/-! ### promises -/
def spFeed (K : PySem.W.Frag) : Sp := fun vs H Q _ => ∃ (a : Addr) (ns : List Int) (k : Int), vs = [.ref a, .int k] ∧ SqL K H a (ns.map V.int) ∧ ns.length ≤ 63 ∧ 0 ≤ k ∧ k < 10 ∧
  ∀ H' p, Same H H' → H p = none → FeedAt H' p → Q (.ref p) H'
def spTake : Sp := fun vs H Q _ => ∃ (f : Addr) (m : Int), vs = [.ref f, .int m] ∧ FeedAt H f ∧ 0 < m ∧ m < 1000 ∧ ∀ H' r, Ext1 f H H' → 0 ≤ r → r < m → Q (.int r) H'
def spPick (K : PySem.W.Frag) : Sp := fun vs H Q _ => ∃ (f l : Addr) (xs : List V), vs = [.ref f, .ref l] ∧ FeedAt H f ∧ SqL K H l xs ∧ l ≠ f ∧ 0 < xs.length ∧ xs.length < 1000 ∧ ∀ H' v, Ext1 f H H' → v ∈ xs → Q v H'
section
variable {P : Program} {w : World} {K : PySem.W.Frag} {mg : Str → Option Value} {base : Heap}
theorem scFeed : FnScope ["script", "k", "seed", "digits"] ["script", "k"] (defScope sFeed) := ⟨rfl, rfl, rfl, by decide +kernel, rfl, by decide +kernel, by decide +kernel⟩
theorem cut_le (xs : List V) (a b : Option Int) : (cutV xs a b).length ≤ xs.length := by
  unfold cutV
  rw [List.length_take, List.length_drop]
  omega
theorem ok_feed {f : Addr} {fd : FuncData} (F : Fun K "_law_feed" "_law_feed" sFeed f fd) (B : Bi mg) : FnOk P w K mg base CX0 1 f fd ["script", "k"] (spFeed K) := by
  refine F.ok scFeed (fun vs H Q E h => ?_) (fun cdv A outer s H vs Q E hr h => ?_)
  · obtain ⟨a, ns, k, rfl, _⟩ := h
    rfl
  · obtain ⟨a, ns, k, rfl, hS, hl, h0, h10, q⟩ := h
    refine ⟨_, pss_cons (ps_set (i := 2) scFeed.nd rfl (.inl rfl)
        (pe_ix ix_list (pe_op op_cat (pe_callTy call_list_of (by rfl) B.list (by decide +kernel) (pa_cons (pe_slice sl_list (pv 0) (po_some (pv 1)) (po_some (pe_op op_add (pv 1) pe_int))) pa_nil))
          (pe_lst (pa_cons (pe_op op_add (pe_op op_mul pe_int (pv 1)) pe_int) pa_nil))) pe_int (fun _ _ => rfl)))
      (pss_cons (ps_set (i := 3) scFeed.nd rfl (.inl rfl) (pe_callB (call_max2 rfl) (by rfl) B.max (by decide +kernel) (pa_cons pe_int (pa_cons
          (pe_op op_sub (pe_callB call_abs (by rfl) B.abs (by decide +kernel) (pa_cons (pv 2) pa_nil)) (pe_op op_pow pe_int pe_int)) pa_nil))))
      (pss_one (ps_ret (pe_lst (pa_cons (pv 3) (pa_cons (pe_op op_mod (pe_callTy call_int1 (by rfl) B.int (by decide +kernel) (pa_cons
          (pe_op op_add (pe_op op_add (pe_op op_mul (pe_op op_mod (pe_callTy call_int1 (by rfl) B.int (by decide +kernel) (pa_cons (pe_callB call_abs (by rfl) B.abs (by decide +kernel) (pa_cons (pv 2) pa_nil)) pa_nil)) pe_int) pe_int)
            (pe_op op_mul pe_int (pv 1))) pe_int) pa_nil)) pe_int) pa_nil)))))), ?_⟩
    refine ⟨_, rfl, _, rfl, k, rfl, _, rfl, _, _, rfl, rfl, _, rfl, a, _, rfl, hS, fun c nc => ?_⟩
    have s1 : Same H (upd H c (.lst (cutV (ns.map V.int) (some k) (some (k + 1))))) := sameU nc
    have hc : (cutV (ns.map V.int) (some k) (some (k + 1))).length ≤ 63 := Nat.le_trans (cut_le _ _ _) (by rw [List.length_map]; exact hl)
    have hint : ∀ v ∈ cutV (ns.map V.int) (some k) (some (k + 1)), ∃ z, v = V.int z := by
      intro v hv
      unfold cutV at hv
      have := List.mem_of_mem_drop (List.mem_of_mem_take hv)
      obtain ⟨z, _, e⟩ := List.mem_map.mp this
      exact ⟨z, e.symm⟩
    generalize cutV (ns.map V.int) (some k) (some (k + 1)) = cs at *
    refine ⟨c, _, rfl, .inl (.inl (.inl upd_same)), fun l nl => ?_⟩
    refine ⟨_, rfl, 71, k, rfl, rfl, .inl ⟨by decide, by decide⟩, _, _, rfl, rfl, (by show 1 ≤ sizeLine; decide), fun m nm => ?_⟩
    have nlm : l ≠ m := fun e => by rw [e] at nm; rw [← e, upd_same] at nm; cases nm
    refine ⟨l, m, cs, _, rfl, rfl, (by rw [upd_ne nlm]; exact upd_same), upd_same, (szL (by show cs.length + 1 ≤ _; omega)), fun r nr => ?_⟩
    have sA : Same H (upd (upd (upd H c (.lst cs)) l (.lst cs)) m (.lst [V.int (71 * k + 23)])) := s1.trans ((sameU nl).trans (sameU nm))
    obtain ⟨z, hz⟩ : ∃ z, (cs ++ [V.int (71 * k + 23)])[0]? = some (V.int z) := by
      cases cs with
      | nil => exact ⟨_, rfl⟩
      | cons x t =>
        obtain ⟨z, e⟩ := hint x (by simp)
        exact ⟨z, by rw [e]; rfl⟩
    refine ⟨r, _, 0, _, rfl, rfl, .inl (.inl upd_same), atI_nat (j := 0) hz, ?_⟩
    have sB : Same H (upd (upd (upd (upd H c (.lst cs)) l (.lst cs)) m (.lst [V.int (71 * k + 23)])) r (.lst (cs ++ [V.int (71 * k + 23)]))) := sA.trans (sameU nr)
    generalize upd (upd (upd (upd H c (.lst cs)) l (.lst cs)) m (.lst [V.int (71 * k + 23)])) r (.lst (cs ++ [V.int (71 * k + 23)])) = H2 at *
    refine ⟨_, rfl, z, rfl, 10, 18, rfl, rfl, ⟨by decide, by decide, by decide⟩, _, _, rfl, rfl, _, _, rfl, ?_⟩
    refine ⟨_, rfl, _, rfl, z, rfl, .inl ⟨_, rfl, _, _, rfl, rfl, (by show (0 : Int) < 1000003; decide), _, _, rfl, rfl, .inr ⟨by decide, by decide⟩, _, rfl, 31, k, rfl, rfl, .inl ⟨by decide, by decide⟩, _, _, rfl, rfl, _, _, rfl, rfl, .inl ⟨_, rfl, _, _, rfl, rfl, (by show (0 : Int) < 1000033; decide), (by show 2 ≤ sizeLine; decide), fun p np => ?_⟩⟩⟩
    exact q _ p (sB.trans (sameU np)) (sB.free np) ⟨_, _, upd_same⟩
theorem scTake : FnScope ["feed", "many", "digit"] ["feed", "many"] (defScope sTake) := ⟨rfl, rfl, rfl, by decide +kernel, rfl, by decide +kernel, by decide +kernel⟩
theorem ok_take {f : Addr} {fd : FuncData} (F : Fun K "_law_take" "_law_take" sTake f fd) (B : Bi mg) : FnOk P w K mg base CX0 1 f fd ["feed", "many"] spTake := by
  refine F.ok scTake (fun vs H Q E h => ?_) (fun cdv A outer s H vs Q E hr h => ?_)
  · obtain ⟨a, m, rfl, _⟩ := h
    rfl
  · obtain ⟨a, m, rfl, ⟨d, z, hF⟩, m0, m1, q⟩ := h
    refine ⟨_, pss_cons (ps_if (pt_cmpR op_gt (pe_ix ix_list (pv 0) pe_int (fun _ _ => rfl)) pe_int (nomark _))
        (pss_cons (ps_set (i := 2) scTake.nd rfl (.inl rfl) (pe_op op_mod (pe_callTy call_int1 (by rfl) B.int (by decide +kernel) (pa_cons (pe_ix ix_list (pv 0) pe_int (fun _ _ => rfl)) pa_nil)) (pv 1)))
        (pss_cons (ps_asg (pe_op op_fdiv (pe_ix ix_list (pv 0) pe_int (fun _ _ => rfl)) (pv 1)) (pg_sub (pv 0) pe_int set_list)) (pss_one (ps_ret (pv 2))))) pss_nil)
      (pss_cons (ps_asg (pe_op op_mod (pe_callTy call_int1 (by rfl) B.int (by decide +kernel) (pa_cons (pe_op op_add (pe_op op_mul (pe_ix ix_list (pv 0) pe_int (fun _ _ => rfl)) pe_int) pe_int) pa_nil)) pe_int) (pg_sub (pv 0) pe_int set_list))
      (pss_one (ps_ret (pe_op op_mod (pe_callTy call_int1 (by rfl) B.int (by decide +kernel) (pa_cons (pe_op op_fdiv (pe_ix ix_list (pv 0) pe_int (fun _ _ => rfl)) pe_int) pa_nil)) (pv 1))))), ?_⟩
    refine ⟨_, rfl, a, _, 0, .int d, rfl, rfl, .inl (.inl hF), rfl, _, _, rfl, rfl, _, rfl, ite2 (fun _ => ?_) (fun _ => ?_)⟩
    · refine ⟨_, rfl, a, _, 0, .int d, rfl, rfl, .inl (.inl hF), rfl, .inl ⟨_, rfl, _, rfl, d, m, rfl, rfl, m0, ?_⟩⟩
      refine ⟨_, rfl, a, _, 0, .int d, rfl, rfl, .inl (.inl hF), rfl, _, rfl, d, m, rfl, rfl, ⟨m0, by omega⟩, _, rfl, a, _, 0, 0, rfl, rfl, hF, rfl, _, rfl, ?_⟩
      exact q _ _ Ext1.put (Int.emod_nonneg _ (by omega)) (Int.emod_lt_of_pos _ m0)
    · refine ⟨_, rfl, a, _, 1, .int z, rfl, rfl, .inl (.inl hF), rfl, z, 69069, rfl, rfl, .inr ⟨by decide, by decide⟩, _, _, rfl, rfl, .inl ⟨_, rfl, _, _, rfl, rfl, (by show (0 : Int) < 4294967311; decide), _, rfl, a, _, 1, 1, rfl, rfl, hF, rfl, ?_⟩⟩
      refine ⟨_, rfl, a, _, 1, _, rfl, rfl, .inl (.inl upd_same), rfl, _, 65536, rfl, rfl, ⟨by decide, by decide⟩, .inl ⟨_, rfl, _, rfl, _, m, rfl, rfl, m0, ?_⟩⟩
      exact q _ _ Ext1.put (Int.emod_nonneg _ (by omega)) (Int.emod_lt_of_pos _ m0)
theorem scPick : FnScope ["feed", "some"] ["feed", "some"] (defScope sPick) := ⟨rfl, rfl, rfl, by decide +kernel, rfl, by decide +kernel, by decide +kernel⟩
theorem ok_pick {f fT : Addr} {fd fdT : FuncData} (F : Fun K "_law_pick" "_law_pick" sPick f fd) (FT : Fun K "_law_take" "_law_take" sTake fT fdT) (bT : Binds K fdT ["feed", "many"] []) (gT : mg "_law_take" = some (.ref fT)) (B : Bi mg) : FnOk P w K mg base CX0 2 f fd ["feed", "some"] (spPick K) := by
  have GT : FnOk P w K mg base CX0 1 fT fdT ["feed", "many"] spTake := ok_take FT B
  refine F.ok scPick (fun vs H Q E h => ?_) (fun cdv A outer s H vs Q E hr h => ?_)
  · obtain ⟨a, l, xs, rfl, _⟩ := h
    rfl
  · obtain ⟨a, l, xs, rfl, hF, hL, nl, x0, x1, q⟩ := h
    refine ⟨_, pss_one (ps_ret (pe_ix ix_list (pv 1) (pe_call GT hr (by rfl) gT FT.kp bT .nil pass0 (pa_cons (pv 0) (pa_cons (pe_callB call_len_seq (by rfl) B.len PySem.boot_len (pa_cons (pv 1) pa_nil)) pa_nil))) (fun _ _ => rfl))), ?_⟩
    refine ⟨_, rfl, _, rfl, _, rfl, l, xs, rfl, .inl hL, a, _, rfl, hF, (by omega), (by omega), fun H1 r e1 r0 r1 => ?_⟩
    obtain ⟨j, rfl⟩ : ∃ j : Nat, r = (j : Int) := ⟨r.toNat, by omega⟩
    have hj : j < xs.length := by omega
    exact ⟨l, xs, (j : Int), xs[j], rfl, rfl, e1.sqL nl hL, atI_nat (by simp [hj]), q _ _ e1 (List.getElem_mem _)⟩
end
end Ew
namespace Ew
open PySem PySem.Spec PyProof.Rows L2
abbrev sRow : Stmt := (top 18)
def spRow (K : PySem.W.Frag) : Sp := fun vs H Q _ => ∃ (f : Addr) (v : V) (r : Int × List Int), vs = [.ref f, v] ∧ FeedAt H f ∧ RdT K H v r ∧ 0 ≤ r.1 ∧ r.1 ≤ 6 ∧ r.2.Pairwise (· < ·) ∧ r.2.length ≤ 60 ∧
  ∀ H' p w, Ext1 f H H' → H p = none → H' p = some (.tup (w.map V.int)) → RowOk r w → Q (.ref p) H'
theorem perm_get {α : Type} {rs : List α} {k : Nat} (h : k < rs.length) : rs.Perm (rs[k] :: rs.eraseIdx k) := by
  induction rs generalizing k with
  | nil => simp at h
  | cons a l ih =>
    cases k with
    | zero => simp
    | succ k =>
      have h' : k < l.length := by simpa using h
      have := ih h'
      simp only [List.getElem_cons_succ, List.eraseIdx_cons_succ]
      exact ((List.Perm.cons a this).trans (List.Perm.swap _ _ _))
theorem map_eraseIdx' {α β : Type} (g : α → β) : ∀ (l : List α) (k : Nat), (l.map g).eraseIdx k = (l.eraseIdx k).map g
  | [], _ => by simp
  | a :: l, 0 => by simp
  | a :: l, k + 1 => by simp [map_eraseIdx' g l k]
theorem lt_of_le_nodup {l : List Int} (h : l.Pairwise (· ≤ ·)) (n : l.Nodup) : l.Pairwise (· < ·) := by
  have n' : l.Pairwise (· ≠ ·) := n
  have := h.and n'
  exact this.imp fun ⟨h1, h2⟩ => by omega
section
variable {P : Program} {w : World} {K : PySem.W.Frag} {mg : Str → Option Value} {base : Heap}
theorem scRow : FnScope ["feed", "reader", "limit", "may", "rest", "found", "turn"] ["feed", "reader"] (defScope sRow) := ⟨rfl, rfl, rfl, by decide +kernel, rfl, by decide +kernel, by decide +kernel⟩
theorem ok_row {f fT : Addr} {fd fdT : FuncData} (F : Fun K "_law_row" "_law_row" sRow f fd) (FT : Fun K "_law_take" "_law_take" sTake fT fdT) (bT : Binds K fdT ["feed", "many"] []) (gT : mg "_law_take" = some (.ref fT)) (B : Bi mg) :
    FnOk P w K mg base CX0 2 f fd ["feed", "reader"] (spRow K) := by
  have GT : FnOk P w K mg base CX0 1 fT fdT ["feed", "many"] spTake := ok_take FT B
  refine F.ok scRow (fun vs H Q E h => ?_) (fun cdv A outer s H vs Q E hr h => ?_)
  · obtain ⟨a, v, r, rfl, _⟩ := h
    rfl
  · obtain ⟨a, v, ⟨lim, may⟩, rfl, hF, ⟨t, m, rfl, hT, hM⟩, l0, l6, hp, hlen, q⟩ := h
    replace hlen : may.length ≤ 60 := hlen
    replace l0 : 0 ≤ lim := l0
    replace l6 : lim ≤ 6 := l6
    replace hp : may.Pairwise (· < ·) := hp
    refine ⟨_, pss_cons (ps_asg (pv 1) (pg_tup (by rfl) (pgs_cons (pg_name (i := 2) scRow.nd rfl (.inl rfl)) (pgs_cons (pg_name (i := 3) scRow.nd rfl (.inl rfl)) pgs_nil))))
      (pss_cons (ps_par (i := 4) (j := 5) (by rfl) scRow.nd rfl rfl (by decide) rfl rfl (pa_cons (pe_callTy call_list_of (by rfl) B.list (by decide +kernel) (pa_cons (pv 3) pa_nil)) (pa_cons (pe_lst pa_nil) pa_nil)) (by rfl))
      (pss_cons (ps_for PassesOwn.never rfl (pi_range1 rfl B.range (pa_cons (pe_call GT hr (by rfl) gT FT.kp bT .nil pass0 (pa_cons (pv 0) (pa_cons (pe_op op_add pe_int (pe_callB (call_min2 rfl) (by rfl) B.min (by decide +kernel) (pa_cons (pv 2) (pa_cons (pe_callB call_len_seq (by rfl) B.len PySem.boot_len (pa_cons (pv 3) pa_nil)) pa_nil)))) pa_nil))) pa_nil))
          (pg_name (i := 6) scRow.nd rfl (.inl rfl))
          (pss_one (ps_expr (pe_bm PySem.F.plainAttrs_list PySem.F.slot_list_append PySem.F.type_list_append mt_append (pv 5) (pa_cons
            (pe_bm PySem.F.plainAttrs_list PySem.F.slot_list_pop PySem.F.type_list_pop mt_popAt (pv 4) (pa_cons (pe_call GT hr (by rfl) gT FT.kp bT .nil pass0 (pa_cons (pv 0) (pa_cons (pe_callB call_len_seq (by rfl) B.len PySem.boot_len (pa_cons (pv 4) pa_nil)) pa_nil))) pa_nil)) pa_nil)))))
      (pss_one (ps_ret (pe_callTy call_tuple_of (by rfl) B.tuple (by decide +kernel) (pa_cons (pe_callB cr_sorted (by rfl) B.sorted (by decide +kernel) (pa_cons (pv 5) pa_nil)) pa_nil)))))), ?_⟩
    -- limit, may = reader
    refine ⟨_, rfl, t, _, rfl, hT, rfl, _, _, rfl, _, _, rfl, rfl, ?_⟩
    -- rest, found
    refine ⟨_, rfl, m, _, rfl, .inr hM, fun R nR => ⟨Nat.zero_le _, fun Fd nFd => ⟨_, _, rfl, ?_⟩⟩⟩
    have nFd0 : H Fd = none := (sameU nR).free nFd
    have nFR : Fd ≠ R := fun e => by rw [e, upd_same] at nFd; cases nFd
    have e0 : Ext1 a H (upd (upd H R (.lst (may.map V.int))) Fd (.lst [])) := Ext1.new (Ext1.new (.refl hF) nR) nFd
    have fR : R ≠ a := hF.ne nR
    have fF : Fd ≠ a := hF.ne nFd0
    -- range(take(feed, 1 + min(limit, len(may))))
    refine ⟨_, rfl, _, rfl, _, rfl, m, _, rfl, .inr (e0.sqT hF hM), lim, _, rfl, _, _, rfl, rfl, a, _, rfl, e0.feed, ?_, ?_, fun H1 n e1 n0 n1 => ?_⟩
    · rw [List.length_map]; split <;> omega
    · rw [List.length_map]; split <;> omega
    rw [List.length_map] at n1
    replace n1 : n < 1 + (if (may.length : Int) < lim then (may.length : Int) else lim) := n1
    have n2 : n ≤ lim ∧ n ≤ may.length := by split at n1 <;> omega
    refine ⟨n, rfl, by omega, by omega, for_range (lo := 0) (n := n.toNat) (fun i σ H' => ∃ (rs fs : List Int) (y : Option V), σ = [some (.ref a), some (.ref t), some (.int lim), some (.ref m), some (.ref R), some (.ref Fd), y] ∧ (fs ++ rs).Perm may ∧ fs.length = i ∧
        H' R = some (.lst (rs.map V.int)) ∧ H' Fd = some (.lst (fs.map V.int)) ∧ Ext1 a H H') ⟨may, [], none, rfl, List.Perm.refl _, rfl, ?_, ?_, e0.trans e1⟩ ?_ ?_⟩
    · exact e1.1 _ _ fR (by rw [upd_ne nFR.symm]; exact upd_same)
    · exact e1.1 _ _ fF upd_same
    · rintro i σ H' hi ⟨rs, fs, y, rfl, pm, hl, hR, hFd, ex⟩
      have hsz : fs.length + rs.length = may.length := by rw [← List.length_append]; exact pm.length_eq
      refine ⟨_, rfl, .inl ⟨rfl, _, .inl (.inl hFd)⟩, ?_⟩
      refine ⟨_, rfl, .inl ⟨rfl, _, .inl (.inl hR)⟩, _, rfl, _, rfl, R, _, rfl, .inl (.inl (.inl hR)), a, _, rfl, ex.feed, by rw [List.length_map]; omega, by rw [List.length_map]; omega, fun H2 k e2 k0 k1 => ?_⟩
      rw [List.length_map] at k1
      have hR2 := e2.1 _ _ fR hR
      have hF2 := e2.1 _ _ fF hFd
      obtain ⟨j, rfl⟩ : ∃ j : Nat, k = (j : Int) := ⟨k.toNat, by omega⟩
      have hj : j < rs.length := by omega
      refine ⟨R, _, (j : Int), j, .int rs[j], rfl, rfl, hR2, by omega, by omega, ?_, by simp [hj], ?_⟩
      · rw [List.length_map]
        unfold seqIndex?
        simp
        omega
      · refine ⟨Fd, _, _, rfl, rfl, (by rw [upd_ne nFR]; exact hF2), szl (by rw [List.length_map]; omega), ?_⟩
        refine ⟨rs.eraseIdx j, fs ++ [rs[j]], some (.int (0 + (i : Int))), rfl, ?_, by simp [hl], ?_, ?_, ?_⟩
        · rw [List.append_assoc]
          exact (List.Perm.append_left fs (perm_get hj).symm).trans pm
        · rw [upd_ne nFR.symm, upd_same, map_eraseIdx']
        · rw [upd_same, List.map_append]
          rfl
        · exact ((ex.trans e2).own nR fR).own nFd0 fF
    · rintro σ H' ⟨rs, fs, y, rfl, pm, hl, hR, hFd, ex⟩
      have nd : may.Nodup := hp.imp fun h => by omega
      have hsz : fs.length + rs.length = may.length := by rw [← List.length_append]; exact pm.length_eq
      refine ⟨_, rfl, Fd, fs, rfl, .inl (.inl hFd), by omega, fun ns' p pm2 so np => ⟨p, _, rfl, .inl ⟨.inl (.inl upd_same), fun l nl => ?_⟩⟩⟩
      have ex2 : Ext1 a H (upd (upd H' p (.lst (ns'.map V.int))) l (.tup (ns'.map V.int))) := (ex.new np).new nl
      refine q _ l ns' ex2 ((ex.new np).free nl) upd_same ⟨?_, ?_, ?_⟩
      · have : (fs ++ rs).Nodup := pm.nodup_iff.mpr nd
        have nf : fs.Nodup := (List.nodup_append.mp this).1
        exact lt_of_le_nodup so (pm2.nodup_iff.mpr nf)
      · intro x hx
        exact pm.mem_iff.mp (List.mem_append_left _ (pm2.mem_iff.mp hx))
      · rw [pm2.length_eq, hl]
        show ((n.toNat : Nat) : Int) ≤ lim
        omega
end
end Ew
namespace Ew
open PySem PySem.Spec PyProof.Rows L2
abbrev sRows : Stmt := (top 19)
abbrev sTimes : Stmt := (top 20)
def RdsOk (rs : List (Int × List Int)) : Prop := ∀ r ∈ rs, 0 ≤ r.1 ∧ r.1 ≤ 6 ∧ r.2.Pairwise (· < ·) ∧ r.2.length ≤ 60
def spRows (K : PySem.W.Frag) : Sp := fun vs H Q _ => ∃ (f R ab : Addr) (rs : List (Int × List Int)) (as : List Int), vs = [.ref f, .ref R, .ref ab] ∧ FeedAt H f ∧ R ≠ f ∧ RdL K H R rs ∧ RdsOk rs ∧ rs.length ≤ 60 ∧ SqT K H ab (as.map V.int) ∧
  ∀ H' p vs ws, Ext1 f H H' → H p = none → H' p = some (.lst vs) → Paired (RowT K H') vs ws → Paired RowOk rs ws → (∀ i w, ws[i]? = some w → ((i : Nat) : Int) ∈ as → w = []) → Q (.ref p) H'
theorem flat_ints (l : List Int) : (l.map V.int).all flatV = true := by
  rw [List.all_map]
  exact List.all_eq_true.mpr fun _ _ => rfl
theorem inV_int (i : Int) (l : List Int) : inV (.int i) (l.map V.int) = decide (i ∈ l) := by
  unfold inV
  rw [List.any_map]
  induction l with
  | nil => rfl
  | cons a l ih =>
    rw [List.any_cons, ih]
    have e : ((fun y => eqV y (V.int i)) ∘ V.int) a = decide (a = i) := by
      show eqV (V.int a) (V.int i) = _
      by_cases h : a = i
      · subst h
        simp [eqV]
      · simp [eqV, h]
    rw [e]
    by_cases h : a = i
    · subst h; simp
    · have h' : ¬ i = a := fun e => h e.symm
      simp [h, h']
theorem Paired.len {α β : Type} {R : α → β → Prop} : ∀ {xs : List α} {ys : List β}, Paired R xs ys → xs.length = ys.length
  | _, _, .nil => rfl
  | _, _, .cons _ t => by simp [Paired.len t]
theorem Paired.take {α β : Type} {R : α → β → Prop} : ∀ {xs : List α} {ys : List β} (n : Nat), Paired R xs ys → Paired R (xs.take n) (ys.take n)
  | _, _, 0, _ => .nil
  | _, _, _ + 1, .nil => .nil
  | _, _, n + 1, .cons r t => .cons r (Paired.take n t)
section
variable {P : Program} {w : World} {K : PySem.W.Frag} {mg : Str → Option Value} {base : Heap}
theorem scRows : FnScope ["feed", "readers", "absent", "at", "reader"] ["feed", "readers", "absent"] (defScope sRows) := ⟨rfl, rfl, rfl, by decide +kernel, rfl, by decide +kernel, by decide +kernel⟩
theorem ok_rows {f fT fR : Addr} {fd fdT fdR : FuncData} (F : Fun K "_law_rows" "_law_rows" sRows f fd) (FT : Fun K "_law_take" "_law_take" sTake fT fdT) (bT : Binds K fdT ["feed", "many"] []) (gT : mg "_law_take" = some (.ref fT))
    (FR : Fun K "_law_row" "_law_row" sRow fR fdR) (bR : Binds K fdR ["feed", "reader"] []) (gR : mg "_law_row" = some (.ref fR)) (B : Bi mg) :
    FnOk P w K mg base CX0 3 f fd ["feed", "readers", "absent"] (spRows K) := by
  have GR : FnOk P w K mg base CX0 2 fR fdR ["feed", "reader"] (spRow K) := ok_row FR FT bT gT B
  refine F.ok scRows (fun vs H Q E h => ?_) (fun cdv A outer s H vs Q E hr h => ?_)
  · obtain ⟨a, R, ab, rs, as, rfl, _⟩ := h
    rfl
  · obtain ⟨a, R, ab, rs, as, rfl, hF, nR, ⟨us, hL, hP⟩, hok, hlen, hA, q⟩ := h
    refine ⟨_, pss_one (ps_ret (pe_lc (own := [("at", 3), ("reader", 4)]) (g := gTup K 2 (gCons (gName 3) (gCons (gName 4) gNil))) (tt := tYes) (te := tIf (tTest (tOp (rIn K false) (tVar 3) (tVar 2))) (tTup tNil) (tCall (spRow K) [] E0 (tCons (tVar 0) (tCons (tVar 4) tNil)))) rfl scRows.nd (pi_enum (by rfl) B.enumerate (pa_cons (pv 1) pa_nil)) (blkOk_by (own := [("at", 3), ("reader", 4)]) (N := ["feed", "readers", "absent", "at", "reader"]) (sc := defScope sRows) (by decide +kernel))
      (fun _ _ _ _ _ => pg_tup (by rfl) (pgs_cons (pg_name (i := 3) scRows.nd rfl (.inl rfl)) (pgs_cons (pg_name (i := 4) scRows.nd rfl (.inl rfl)) pgs_nil))) (fun _ _ _ _ _ => pts_nil)
      (fun _ _ _ _ _ => pe_ifExp (pt_cmpR op_in_seq (pv 3) (pv 2) (by rfl)) (pe_tup pa_nil) (pe_call GR hr (by rfl) gR FR.kp bR .nil pass0 (pa_cons (pv 0) (pa_cons (pv 4) pa_nil)))))), ?_⟩
    refine ⟨_, rfl, R, us, rfl, hL, fun D nD => ?_⟩
    have fD : D ≠ a := hF.ne nD
    refine lc_it (walk_enum (xs := us)) (fun i H' => ∃ (vs : List V) (ws : List (List Int)), Ext1 a H H' ∧ H' D = some (.lst vs) ∧ Paired (RowT K H') vs ws ∧ Paired RowOk (rs.take i) ws ∧ (∀ i w, ws[i]? = some w → ((i : Nat) : Int) ∈ as → w = []))
      ⟨[], [], (Ext1.refl hF).new nD, upd_same, .nil, .nil, fun i w e => by simp at e⟩ (fun i H' _ ⟨_, _, e, _⟩ => e.sqL nR hL) ?_ ?_
    · rintro i x H1 H2 hi ⟨vs, ws, e1, hD, p1, p2, p3⟩ ⟨T, x1, x2, rfl, nT, rfl, f1, f2⟩
      obtain ⟨r, hr2, rd⟩ := Paired.at1 hP f2
      have eT : Ext1 a H (upd H1 T (.tup [x1, x2])) := e1.new nT
      have sT : Same H1 (upd H1 T (.tup [x1, x2])) := sameU nT
      obtain rfl : V.int (i : Nat) = x1 := Option.some.inj f1
      refine ⟨T, _, rfl, .inl (.inl upd_same), rfl, _, _, rfl, _, _, rfl, rfl, rfl, ?_⟩
      have hlw : ws.length = i := by
        rw [← Paired.len p2, List.length_take]
        have := Paired.len hP
        omega
      have hlv : vs.length = i := by rw [Paired.len p1]; exact hlw
      have hil : i < 60 := by have := Paired.len hP; omega
      have hrm : r ∈ rs := List.mem_of_getElem? hr2
      obtain ⟨g1, g2, g3, g4⟩ := hok r hrm
      dsimp only [tYes]
      refine iteT ?_
      refine ⟨_, rfl, _, rfl, ab, _, rfl, .inr (eT.sqT hF hA), rfl, flat_ints as, _, rfl, ?_⟩
      have step : ∀ (H3 : Hp) (p : Addr) (w : List Int), Same (upd H1 T (.tup [V.int (i : Nat), x2])) H3 ∨ Ext1 a (upd H1 T (.tup [V.int (i : Nat), x2])) H3 → H3 p = some (.tup (w.map V.int)) → RowOk r w → (((i : Nat) : Int) ∈ as → w = []) →
          ∃ acc, H3 D = some (.lst acc) ∧ acc.length < sizeLine ∧ ∃ (vs : List V) (ws : List (List Int)), Ext1 a H (upd H3 D (.lst (acc ++ [.ref p]))) ∧ (upd H3 D (.lst (acc ++ [.ref p]))) D = some (.lst vs) ∧ Paired (RowT K (upd H3 D (.lst (acc ++ [.ref p])))) vs ws ∧ Paired RowOk (rs.take (i + 1)) ws ∧ (∀ i w, ws[i]? = some w → ((i : Nat) : Int) ∈ as → w = []) := by
        intro H3 p w hs hp ro hw
        have e3 : Ext1 a (upd H1 T (.tup [V.int (i : Nat), x2])) H3 := by
          rcases hs with hs | hs
          · exact .same eT.feed hs
          · exact hs
        have hD3 : H3 D = some (.lst vs) := e3.1 _ _ fD (sT _ _ hD)
        have hP3 : RowT K H3 (.ref p) w := ⟨p, rfl, .inl (.inl hp)⟩
        refine ⟨vs, hD3, szl (by omega), vs ++ [.ref p], ws ++ [w], (eT.trans e3).own nD fD, upd_same, ?_, ?_, ?_⟩
        · exact Paired.snoc (L2.Paired.mapP p1 fun _ _ z => RowT.upd hD3 ((z.same sT).ext e3 eT.feed)) (RowT.upd hD3 hP3)
        · rw [take_more hr2]
          exact Paired.snoc p2 ro
        · intro i' w' he hm
          rcases Nat.lt_or_ge i' ws.length with h | h
          · rw [List.getElem?_append_left h] at he
            exact p3 _ _ he hm
          · rw [List.getElem?_append_right h] at he
            have h0 : i' - ws.length = 0 := by
              cases hz : i' - ws.length with
              | zero => rfl
              | succ n => rw [hz] at he; simp at he
            rw [h0] at he
            have : w = w' := by simpa using he
            subst this
            have : i' = i := by omega
            subst this
            exact hw hm
      by_cases hin : ((i : Nat) : Int) ∈ as
      · have e : inV (V.int (i : Nat)) (as.map V.int) = true := by rw [inV_int]; exact decide_eq_true hin
        rw [e]
        refine iteT ⟨Nat.zero_le _, fun p np => ?_⟩
        exact step _ p [] (.inl (sameU np)) upd_same ⟨.nil, fun x hx => by simp at hx, by simpa using g1⟩ fun _ => rfl
      · have e : inV (V.int (i : Nat)) (as.map V.int) = false := by rw [inV_int]; exact decide_eq_false hin
        rw [e]
        refine iteF ⟨_, rfl, _, rfl, a, x2, r, rfl, eT.feed, (rd.ext eT hF), g1, g2, g3, g4, fun H3 p w e3 np hp ro => ?_⟩
        exact step _ p w (.inr e3) hp ro fun h => absurd h hin
    · rintro H' ⟨vs, ws, e1, hD, p1, p2, p3⟩
      rw [Paired.len hP, List.take_length] at p2
      exact q H' D vs ws e1 nD hD p1 p2 p3
end
end Ew
namespace Ew
open PySem PySem.Spec PyProof.Rows L2
/-- the scope of the comprehension that a def returns -/
def retScope (s : Stmt) : Scope := match defBody s with
  | [.Return (some (.ListComp _ _ sc _)) _] => sc
  | _ => { kind := .function, names := [], isGenerator := false, isCoroutine := false }
def times (ws : List (List Int)) (n : Nat) : List Int := (List.range n).map fun (k : Nat) => ((ws.filter fun r => decide (((k : Nat) : Int) ∈ r)).length : Int)
def spTimes (K : PySem.W.Frag) : Sp := fun vs H Q _ => ∃ (R : Addr) (us : List V) (ws : List (List Int)) (n : Nat), vs = [.ref R, .int n] ∧ SqL K H R us ∧ Paired (RowT K H) us ws ∧ ws.length ≤ 60 ∧ n ≤ 60 ∧
  ∀ H' p, Same H H' → H p = none → H' p = some (.lst ((times ws n).map V.int)) → Q (.ref p) H'
section
variable {P : Program} {w : World} {K : PySem.W.Frag} {mg : Str → Option Value} {base : Heap}
theorem scTimes : FnScope ["rows", "works", "work", "row"] ["rows", "works"] (defScope sTimes) := ⟨rfl, rfl, rfl, by decide +kernel, rfl, by decide +kernel, by decide +kernel⟩
theorem filter_take_snoc {α : Type} (g : α → Bool) {l : List α} {i : Nat} {x : α} (h : l[i]? = some x) : (l.take (i + 1)).filter g = (l.take i).filter g ++ (if g x = true then [x] else []) := by
  rw [take_more h, List.filter_append]
  by_cases e : g x = true
  · rw [if_pos e]; simp [e]
  · rw [if_neg e]; simp [e]
theorem same_own {H H1 : Hp} {D : Addr} {o : HO} (s : Same H H1) (n : H D = none) : Same H (upd H1 D o) := fun b u e => by
  rw [upd_ne (ne_of_none e n)]
  exact s _ _ e
theorem ok_times {f : Addr} {fd : FuncData} (F : Fun K "_law_times" "_law_times" sTimes f fd) (B : Bi mg) : FnOk P w K mg base CX0 1 f fd ["rows", "works"] (spTimes K) := by
  refine F.ok scTimes (fun vs H Q E h => ?_) (fun cdv A outer s H vs Q E hr h => ?_)
  · obtain ⟨R, us, ws, n, rfl, _⟩ := h
    rfl
  · obtain ⟨R, us, ws, n, rfl, hL, hP, hlen, hn, q⟩ := h
    refine ⟨_, pss_one (ps_ret (pe_lc (own := [("work", 2)]) (g := gName 2) (tt := tYes)
      (te := tCB (fun xs H Q => ∃ p ys, xs = [.ref p] ∧ (SqL K H p ys ∨ SqT K H p ys) ∧ Q (.int ys.length) H) (tCons (tLc (iList K (tVar 0)) (gName 3) (tTest (tOp (rIn K false) (tVar 2) (tVar 3))) (tVar 3) [3]) tNil))
      rfl scTimes.nd (pi_range1 rfl B.range (pa_cons (pv 1) pa_nil)) (blkOk_by (own := [("work", 2)]) (N := ["rows", "works", "work", "row"]) (sc := defScope sTimes) (by decide +kernel))
      (fun _ _ _ _ _ => pg_name (i := 2) scTimes.nd rfl (.inr rfl)) (fun _ _ _ _ _ => pts_nil)
      (fun _ _ _ _ _ => pe_callB call_len_seq (by rfl) B.len PySem.boot_len (pa_cons
        (pe_lc (own := [("row", 3)]) (g := gName 3) (tt := tTest (tOp (rIn K false) (tVar 2) (tVar 3))) (te := tVar 3) rfl scTimes.nd (pi_list (pv 0)) (blkOk_by (own := [("row", 3)]) (N := ["rows", "works", "work", "row"]) (sc := relS (retScope sTimes) (defScope sTimes)) (by decide +kernel))
          (fun _ _ _ _ _ => pg_name (i := 3) scTimes.nd rfl (.inl rfl)) (fun _ _ _ _ _ => pts_one (pt_cmpR op_in_seq (pv 2) (pv 3) (by rfl))) (fun _ _ _ _ _ => pv 3)) pa_nil)))), ?_⟩
    have tk : ∀ i, i < n → (times ws n)[i]? = some (((ws.filter fun r => decide (((i : Nat) : Int) ∈ r)).length : Nat) : Int) := fun i hi => by
      unfold times
      rw [List.getElem?_map, List.getElem?_range hi]
      rfl
    have tl : (times ws n).length = n := by
      unfold times
      rw [List.length_map, List.length_range]
    refine ⟨_, rfl, n, rfl, by omega, by omega, fun D nD => ?_⟩
    refine lc_range (lo := 0) (n := ((n : Nat) : Int).toNat) (fun i H' => Same H H' ∧ H' D = some (.lst (((times ws n).take i).map V.int))) ⟨sameU nD, upd_same⟩ ?_ ?_
    · rintro i H1 hi ⟨s1, hD⟩
      have hi' : i < n := by simpa using hi
      refine ⟨rfl, ?_⟩
      dsimp only [tYes]
      refine iteT ?_
      refine ⟨_, rfl, R, rfl, ⟨_, s1.seq hL⟩, fun D2 nD2 => ?_⟩
      refine lc_list (K := K) (a := R) (xs := us) (fun j H' => ∃ vs, Same H1 H' ∧ H' D2 = some (.lst vs) ∧ vs.length = ((ws.take j).filter fun r => decide (((i : Nat) : Int) ∈ r)).length) ⟨[], sameU nD2, upd_same, rfl⟩ (fun j H' _ ⟨_, e, _⟩ => e.seq (s1.seq hL)) ?_ ?_
      · rintro j x H2 hx ⟨vs, s2, hD2, el⟩
        obtain ⟨r, hr2, t, rfl, hT⟩ := Paired.at1 hP hx
        have hT2 : SqT K H2 t (r.map V.int) := sameT s2 (sameT s1 hT)
        refine ⟨rfl, _, rfl, _, rfl, t, _, rfl, .inr hT2, rfl, flat_ints r, _, rfl, ?_⟩
        have ez : (0 : Int) + ((i : Nat) : Int) = ((i : Nat) : Int) := Int.zero_add _
        rw [ez, if_neg Bool.false_ne_true, inV_int]
        have st := filter_take_snoc (fun r => decide (((i : Nat) : Int) ∈ r)) hr2
        have hvl : vs.length ≤ 60 := by
          rw [el]
          refine Nat.le_trans (List.length_filter_le _ _) ?_
          rw [List.length_take]; omega
        refine ite2 (fun c => ?_) (fun c => ?_)
        · refine ⟨_, rfl, vs, hD2, szl (by omega), vs ++ [.ref t], same_own s2 nD2, upd_same, ?_⟩
          rw [st, if_pos c, List.length_append, List.length_append, el]
          rfl
        · refine ⟨vs, s2, hD2, ?_⟩
          rw [st, if_neg c, List.append_nil]
          exact el
      · rintro H2 ⟨vs, s2, hD2, el⟩
        have nd : D ≠ D2 := ne_of_none hD nD2
        refine ⟨D2, vs, rfl, .inl (.inl (.inl hD2)), _, s2 _ _ hD, szl (by rw [List.length_map, List.length_take]; omega), same_own (s1.trans s2) nD, ?_⟩
        have el' : vs.length = (ws.filter fun r => decide (((i : Nat) : Int) ∈ r)).length := by
          rw [el, Paired.len hP, List.take_length]
        rw [upd_same, take_more (tk i hi'), List.map_append, el']
        rfl
    · rintro H' ⟨s1, hD⟩
      refine q H' D s1 nD ?_
      rw [hD]
      rw [List.take_of_length_le (by rw [tl]; exact Nat.le_of_eq (Int.toNat_natCast n).symm)]
end
end Ew
namespace Ew
open PySem PySem.Spec PyProof.Rows L2
abbrev sBook : Stmt := (top 21)
def RdsAt (n : Int) (rs : List (Int × List Int)) : Prop := ∀ r ∈ rs, RdOk n r
/-- the demands at A, the readers at R -/
structure BookAt (K : PySem.W.Frag) (H : Hp) (A R : Addr) (ds : List Int) (us : List V) (rs : List (Int × List Int)) : Prop where
  dem : H A = some (.lst (ds.map V.int))
  rd : H R = some (.lst us)
  rds : Paired (RdT K H) us rs
  n1 : 1 ≤ ds.length
  n6 : ds.length ≤ 6
  d6 : ∀ d ∈ ds, 0 ≤ d ∧ d ≤ 6
  r6 : rs.length ≤ 6
  ok : RdsAt ds.length rs
  ne : A ≠ R
def spBook (K : PySem.W.Frag) : Sp := fun vs H Q _ => ∃ (f : Addr) (mw mr : Int), vs = [.ref f, .int mw, .int mr] ∧ FeedAt H f ∧ 1 ≤ mw ∧ mw ≤ 6 ∧ 0 ≤ mr ∧ mr ≤ 6 ∧
  ∀ H' p A R ds us rs, Ext1 f H H' → H p = none → H A = none → H R = none → H' p = some (.lst [.ref A, .ref R]) → BookAt K H' A R ds us rs → p ≠ A → p ≠ R → ds.length ≤ mw → rs.length ≤ mr → Q (.ref p) H'
theorem mem_map_int {v : V} {l : List Int} (h : v ∈ l.map V.int) : ∃ i, v = .int i ∧ i ∈ l := by
  obtain ⟨i, h1, h2⟩ := List.mem_map.mp h
  exact ⟨i, h2.symm, h1⟩
theorem asc_len : ∀ {l : List Int} {lo n : Int}, l.Pairwise (· < ·) → (∀ x ∈ l, lo ≤ x ∧ x < n) → lo ≤ n → (l.length : Int) ≤ n - lo
  | [], lo, n, _, _, h => by simp; omega
  | x :: l, lo, n, hp, hb, h => by
    have hx := hb x (by simp)
    have hp' := List.pairwise_cons.mp hp
    have := asc_len (l := l) (lo := x + 1) (n := n) hp'.2 (fun y hy => ⟨by have := hp'.1 y hy; omega, (hb y (by simp [hy])).2⟩) (by omega)
    simp only [List.length_cons]
    omega
theorem Asc.len {n : Int} {l : List Int} (h : Asc n l) (hn : 0 ≤ n) : (l.length : Int) ≤ n := by
  have := asc_len h.1 h.2 hn
  omega
theorem rdsOk_of {n : Int} {rs : List (Int × List Int)} (h : RdsAt n rs) (h0 : 0 ≤ n) (h6 : n ≤ 6) : RdsOk rs := fun r hr => by
  obtain ⟨a, b, c⟩ := h r hr
  have := c.len h0
  exact ⟨a, b, c.1, by omega⟩
theorem times_len (ws : List (List Int)) (n : Nat) : (times ws n).length = n := by
  unfold times
  rw [List.length_map, List.length_range]
theorem times_le (ws : List (List Int)) (n : Nat) : ∀ d ∈ times ws n, 0 ≤ d ∧ d ≤ (ws.length : Int) := by
  intro d hd
  unfold times at hd
  obtain ⟨k, _, rfl⟩ := List.mem_map.mp hd
  have := List.length_filter_le (fun r => decide (((k : Nat) : Int) ∈ r)) ws
  omega
section
variable {P : Program} {w : World} {K : PySem.W.Frag} {mg : Str → Option Value} {base : Heap}
/-- what stands of the law's small defs -/
structure Low (K : PySem.W.Frag) (mg : Str → Option Value) : Prop where
  bi : Bi mg
  feed : ∃ f fd, Fun K "_law_feed" "_law_feed" sFeed f fd ∧ Binds K fd ["script", "k"] [] ∧ mg "_law_feed" = some (.ref f)
  take : ∃ f fd, Fun K "_law_take" "_law_take" sTake f fd ∧ Binds K fd ["feed", "many"] [] ∧ mg "_law_take" = some (.ref f)
  pick : ∃ f fd, Fun K "_law_pick" "_law_pick" sPick f fd ∧ Binds K fd ["feed", "some"] [] ∧ mg "_law_pick" = some (.ref f)
  row : ∃ f fd, Fun K "_law_row" "_law_row" sRow f fd ∧ Binds K fd ["feed", "reader"] [] ∧ mg "_law_row" = some (.ref f)
  rows : ∃ f fd, Fun K "_law_rows" "_law_rows" sRows f fd ∧ Binds K fd ["feed", "readers", "absent"] [] ∧ mg "_law_rows" = some (.ref f)
  times : ∃ f fd, Fun K "_law_times" "_law_times" sTimes f fd ∧ Binds K fd ["rows", "works"] [] ∧ mg "_law_times" = some (.ref f)
  book : ∃ f fd, Fun K "_law_book" "_law_book" sBook f fd ∧ Binds K fd ["feed", "most_works", "most_readers"] [] ∧ mg "_law_book" = some (.ref f)
theorem scBook : FnScope ["feed", "most_works", "most_readers", "works", "readers", "wide", "turn", "may", "work", "demands"] ["feed", "most_works", "most_readers"] (defScope sBook) := ⟨rfl, rfl, rfl, by decide +kernel, rfl, by decide +kernel, by decide +kernel⟩
theorem ok_book {f : Addr} {fd : FuncData} (F : Fun K "_law_book" "_law_book" sBook f fd) (L : Low K mg) : FnOk P w K mg base CX0 4 f fd ["feed", "most_works", "most_readers"] (spBook K) := by
  obtain ⟨B, _, ⟨fT, fdT, FT, bT, gT⟩, ⟨fP, fdP, FP, bP, gP⟩, ⟨fR, fdR, FR, bR, gR⟩, ⟨fS, fdS, FS, bS, gS⟩, ⟨fM, fdM, FM, bM, gM⟩, _⟩ := L
  have GT : FnOk P w K mg base CX0 1 fT fdT ["feed", "many"] spTake := ok_take FT B
  have GP : FnOk P w K mg base CX0 2 fP fdP ["feed", "some"] (spPick K) := ok_pick FP FT bT gT B
  have GS : FnOk P w K mg base CX0 3 fS fdS ["feed", "readers", "absent"] (spRows K) := ok_rows FS FT bT gT FR bR gR B
  have GM : FnOk P w K mg base CX0 1 fM fdM ["rows", "works"] (spTimes K) := ok_times FM B
  refine F.ok scBook (fun vs H Q E h => ?_) (fun cdv A outer s H vs Q E hr h => ?_)
  · obtain ⟨a, mw, mr, rfl, _⟩ := h
    rfl
  · obtain ⟨a, mw, mr, rfl, hF, w1, w6, r0, r6, q⟩ := h
    have hr1 : Room 1 _ := hr.mono (by decide)
    have hr2 : Room 2 _ := hr.mono (by decide)
    refine ⟨_, pss_cons (ps_par (i := 3) (j := 4) (by rfl) scBook.nd rfl rfl (by decide) rfl rfl (pa_cons (pe_op op_add pe_int (pe_call GT hr1 (by rfl) gT FT.kp bT .nil pass0 (pa_cons (pv 0) (pa_cons (pv 1) pa_nil)))) (pa_cons (pe_lst pa_nil) pa_nil)) (by rfl))
      (pss_cons (ps_set (i := 5) scBook.nd rfl (.inr rfl) (pe_call GT hr1 (by rfl) gT FT.kp bT .nil pass0 (pa_cons (pv 0) (pa_cons pe_int pa_nil))))
      (pss_cons (ps_for PassesOwn.never rfl (pi_range1 rfl B.range (pa_cons (pe_call GT hr1 (by rfl) gT FT.kp bT .nil pass0 (pa_cons (pv 0) (pa_cons (pe_op op_add (pv 2) pe_int) pa_nil))) pa_nil)) (pg_name (i := 6) scBook.nd rfl (.inl rfl))
        (pss_cons (ps_setLc (i := 7) (own := [("work", 8)]) (g := gName 8) (tt := tTest (tOp (rI0 fun i j => .bl (decide (i < j))) (tCall spTake [] E0 (tCons (tVar 0) (tCons (tC (.int 3)) tNil))) (tOp (rI0 fun i j => .int (i + j)) (tC (.int 1)) (tVar 5)))) (te := tVar 8)
            (by rfl) scBook.nd rfl rfl (sw_true rfl rfl rfl (by decide +kernel)) (pi_range1 rfl B.range (pa_cons (pv 3) pa_nil))
            (blkOk_by (own := [("work", 8)]) (N := ["feed", "most_works", "most_readers", "works", "readers", "wide", "turn", "may", "work", "demands"]) (sc := defScope sBook) (by decide +kernel))
            (fun _ _ _ _ _ => pg_name (i := 8) scBook.nd rfl (.inl rfl))
            (fun _ _ _ _ _ => pts_one (pt_cmpR op_lt (pe_call GT hr1 (by rfl) gT FT.kp bT .nil pass0 (pa_cons (pv 0) (pa_cons pe_int pa_nil))) (pe_op op_add pe_int (pv 5)) (nomark _))) (fun _ _ _ _ _ => pv 8))
        (pss_one (ps_expr (pe_bm PySem.F.plainAttrs_list PySem.F.slot_list_append PySem.F.type_list_append mt_append (pv 4) (pa_cons (pe_tup (pa_cons
            (pe_call GP hr2 (by rfl) gP FP.kp bP .nil pass0 (pa_cons (pv 0) (pa_cons (pe_lst (pa_cons pe_int (pa_cons pe_int (pa_cons pe_int (pa_cons pe_int (pa_cons pe_int (pa_cons pe_int (pa_cons pe_int (pa_cons pe_int (pa_cons pe_int (pa_cons pe_int pa_nil))))))))))) pa_nil)))
            (pa_cons (pe_callTy call_tuple_of (by rfl) B.tuple (by decide +kernel) (pa_cons (pv 7) pa_nil)) pa_nil))) pa_nil))))))
      (pss_cons (ps_set (i := 9) scBook.nd rfl (.inl rfl) (pe_call GM hr1 (by rfl) gM FM.kp bM .nil pass0 (pa_cons (pe_call GS hr (by rfl) gS FS.kp bS .nil pass0 (pa_cons (pv 0) (pa_cons (pv 4) (pa_cons (pe_tup pa_nil) pa_nil)))) (pa_cons (pv 3) pa_nil))))
      (pss_cons (ps_for PassesOwn.never rfl (pi_range1 rfl B.range (pa_cons (pe_call GP hr2 (by rfl) gP FP.kp bP .nil pass0 (pa_cons (pv 0) (pa_cons (pe_lst (pa_cons pe_int (pa_cons pe_int (pa_cons pe_int (pa_cons pe_int (pa_cons pe_int (pa_cons pe_int pa_nil))))))) pa_nil))) pa_nil)) (pg_name (i := 6) scBook.nd rfl (.inl rfl))
        (pss_one (ps_asg (pe_call GP hr2 (by rfl) gP FP.kp bP .nil pass0 (pa_cons (pv 0) (pa_cons (pe_lst (pa_cons pe_int (pa_cons pe_int (pa_cons pe_int (pa_cons pe_int (pa_cons pe_int (pa_cons pe_int pa_nil))))))) pa_nil)))
          (pg_sub (pv 9) (pe_call GT hr1 (by rfl) gT FT.kp bT .nil pass0 (pa_cons (pv 0) (pa_cons (pv 3) pa_nil))) set_list))))
      (pss_one (ps_ret (pe_lst (pa_cons (pv 9) (pa_cons (pv 4) pa_nil))))))))), ?_⟩
    refine ⟨_, rfl, _, rfl, a, mw, rfl, hF, by omega, by omega, fun H1 n e1 n0 n1 => ?_⟩
    obtain ⟨wn, ew⟩ : ∃ wn : Nat, 1 + n = (wn : Int) := ⟨(1 + n).toNat, by omega⟩
    refine ⟨_, _, rfl, rfl, Nat.zero_le _, fun R nR => ⟨.int wn, .ref R, by rw [← ew], ?_⟩⟩
    have hw1 : 1 ≤ wn := by omega
    have hw6 : wn ≤ 6 := by omega
    have hwm : (wn : Int) ≤ mw := by omega
    have nR0 : H R = none := e1.free nR
    have fR : R ≠ a := hF.ne nR0
    have e1' : Ext1 a H (upd H1 R (.lst [])) := e1.new nR
    refine ⟨_, rfl, a, 3, rfl, e1'.feed, by decide, by decide, fun H2 wd e2 wd0 wd1 => ?_⟩
    refine ⟨_, rfl, _, rfl, _, _, rfl, rfl, a, _, rfl, e2.feed, by omega, by omega, fun H3 n3 e3 n30 n31 => ⟨n3, rfl, by omega, by omega, ?_⟩⟩
    have e3' : Ext1 a H H3 := e1'.trans (e2.trans e3)
    refine for_range (lo := 0) (n := n3.toNat) (fun i σ H' => ∃ (us : List V) (rs : List (Int × List Int)) (y6 y7 : Option V), σ = [some (.ref a), some (.int mw), some (.int mr), some (.int wn), some (.ref R), some (.int wd), y6, y7, none, none] ∧ Ext1 a H H' ∧ H' R = some (.lst us) ∧
        Paired (RdT K H') us rs ∧ rs.length = i ∧ RdsAt wn rs) ⟨[], [], none, none, rfl, e3', ?_, .nil, rfl, fun r hr => by simp at hr⟩ ?_ ?_
    · exact e3.1 _ _ fR (e2.1 _ _ fR upd_same)
    · rintro i σ H4 hi ⟨us, rs, y6, y7, rfl, e4, hR, hP, hlen, hok⟩
      refine ⟨_, rfl, wn, rfl, by omega, by omega, fun D nD => ?_⟩
      have nD0 : H D = none := e4.free nD
      have fD : D ≠ a := hF.ne nD0
      have nDR : R ≠ D := ne_of_none hR nD
      refine lc_range (lo := 0) (n := ((wn : Nat) : Int).toNat) (fun j H' => ∃ acc : List Int, Ext1 a H4 H' ∧ H' D = some (.lst (acc.map V.int)) ∧ acc.Pairwise (· < ·) ∧ ∀ x ∈ acc, 0 ≤ x ∧ x < (j : Int))
        ⟨[], (Ext1.refl e4.feed).new nD, upd_same, .nil, fun x hx => by simp at hx⟩ ?_ ?_
      · rintro j H5 hj ⟨acc, e5, hD, pa, ba⟩
        refine ⟨rfl, _, rfl, a, 3, rfl, e5.feed, by decide, by decide, fun H6 v e6 v0 v1 => ⟨_, rfl, _, _, rfl, rfl, _, _, rfl, rfl, _, rfl, ite2 (fun _ => ?_) (fun _ => ?_)⟩⟩
        · have hD6 := e6.1 _ _ fD hD
          have hal := asc_len pa ba (by omega)
          have hj' : j < wn := by simpa using hj
          refine ⟨_, rfl, _, hD6, szl (by rw [List.length_map]; omega), acc ++ [0 + (j : Int)], (e5.trans e6).own nD fD, by rw [upd_same, List.map_append]; rfl, ?_, ?_⟩
          · refine List.pairwise_append.mpr ⟨pa, List.pairwise_singleton _ _, fun x hx y hy => ?_⟩
            have := ba x hx
            rw [List.mem_singleton.mp hy]
            omega
          · intro x hx
            rcases List.mem_append.mp hx with h | h
            · have := ba x h
              omega
            · rw [List.mem_singleton.mp h]
              omega
        · exact ⟨acc, e5.trans e6, e6.1 _ _ fD hD, pa, fun x hx => by have := ba x hx; omega⟩
      · rintro H5 ⟨acc, e5, hD, pa, ba⟩
        have ha : Asc wn acc := ⟨pa, fun x hx => by have := ba x hx; omega⟩
        have hR5 := e5.1 _ _ fR hR
        have hi3 : i < n3.toNat := hi
        refine ⟨_, rfl, .inl ⟨rfl, _, .inl (.inl hR5)⟩, ?_⟩
        refine ⟨_, rfl, (by show 10 ≤ sizeLine; decide), fun l nl => ⟨a, l, [0, 1, 1, 1, 2, 2, 3, 4, 5, 6].map V.int, rfl, (Ext1.new (Ext1.refl e5.feed) nl).feed, .inl (.inl upd_same), e5.feed.ne nl, by decide, by decide, fun H6 v e6 hv => ?_⟩⟩
        obtain ⟨lim, rfl, hlim⟩ := mem_map_int hv
        have hl6 : 0 ≤ lim ∧ lim ≤ 6 := (by decide : ∀ x ∈ ([0, 1, 1, 1, 2, 2, 3, 4, 5, 6] : List Int), 0 ≤ x ∧ x ≤ 6) lim hlim
        have e6' : Ext1 a H5 H6 := (Ext1.new (Ext1.refl e5.feed) nl).trans e6
        have hD6 := e6'.1 _ _ fD hD
        refine ⟨_, rfl, D, _, rfl, .inl ⟨.inl (.inl hD6), fun m nm => ⟨(by show 2 ≤ sizeLine; decide), fun t nt => ?_⟩⟩⟩
        have hR6 := e6'.1 _ _ fR hR5
        have nRm : R ≠ m := ne_of_none hR6 nm
        have hR7 : upd H6 m (.tup (acc.map V.int)) R = some (.lst us) := by rw [upd_ne nRm]; exact hR6
        have nRt : R ≠ t := ne_of_none hR7 nt
        have nmt : m ≠ t := fun e => by rw [← e, upd_same] at nt; cases nt
        have hR8 : upd (upd H6 m (.tup (acc.map V.int))) t (.tup [.int lim, .ref m]) R = some (.lst us) := by rw [upd_ne nRt]; exact hR7
        have e8 : Ext1 a H4 (upd (upd H6 m (.tup (acc.map V.int))) t (.tup [.int lim, .ref m])) := ((e5.trans e6').new nm).new nt
        have hul : us.length ≤ 100 := by rw [Paired.len hP, hlen]; omega
        refine ⟨R, _, _, rfl, rfl, hR8, szl (by omega), us ++ [.ref t], rs ++ [(lim, acc)], some (.int (0 + (i : Int))), some (.ref D), rfl, (e4.trans e8).own nR0 fR, upd_same, ?_, by simp [hlen], ?_⟩
        · refine Paired.snoc (L2.Paired.mapP hP fun _ _ z => RdT.upd hR8 (z.ext e8 e4.feed)) (RdT.upd hR8 ⟨t, m, rfl, .inl (.inl upd_same), .inl (.inl ?_)⟩)
          rw [upd_ne nmt, upd_same]
        · intro r hr
          rcases List.mem_append.mp hr with h | h
          · exact hok r h
          · rw [List.mem_singleton.mp h]
            exact ⟨hl6.1, hl6.2, ha⟩
    · rintro σ H4 ⟨us, rs, y6, y7, rfl, e4, hR, hP, hlen, hok⟩
      have hrl : rs.length ≤ 6 ∧ (rs.length : Int) ≤ mr := by omega
      refine ⟨_, rfl, _, rfl, Nat.zero_le _, fun ab nab => ?_⟩
      have e4' : Ext1 a H4 (upd H4 ab (.tup [])) := (Ext1.refl e4.feed).new nab
      refine ⟨a, R, ab, rs, [], rfl, e4'.feed, fR, ⟨us, .inl (.inl (e4'.1 _ _ fR hR)), L2.Paired.mapP hP fun _ _ z => z.ext e4' e4.feed⟩, rdsOk_of hok (by omega) (by omega), by omega, .inl (.inl upd_same), fun H5 p vs ws e5 np hp pw pr _ => ?_⟩
      have hwl : ws.length = rs.length := (Paired.len pr).symm
      refine ⟨_, rfl, p, vs, ws, wn, rfl, .inl (.inl hp), pw, by omega, by omega, fun H6 A s6 nA hA => ?_⟩
      have e6 : Ext1 a H4 H6 := (e4'.trans e5).trans (.same e5.feed s6)
      have nA0 : H A = none := (e4.trans (e4'.trans e5)).free nA
      have fA : A ≠ a := hF.ne nA0
      have hR6 := e6.1 _ _ fR hR
      have nAR : A ≠ R := fun e => by
        have := (e4'.trans e5).1 _ _ fR hR
        rw [← e, nA] at this; cases this
      have hP6 := L2.Paired.mapP hP fun _ _ z => RdT.ext e6 e4.feed z
      -- the demands are changed
      refine ⟨_, rfl, (by show 6 ≤ sizeLine; decide), fun l nl => ⟨a, l, [0, 0, 1, 1, 2, 6].map V.int, rfl, (Ext1.new (Ext1.refl e6.feed) nl).feed, .inl (.inl upd_same), e6.feed.ne nl, by decide, by decide, fun H7 v e7 hv => ?_⟩⟩
      obtain ⟨z, rfl, hz⟩ := mem_map_int hv
      have hz6 : 0 ≤ z ∧ z ≤ 6 := (by decide : ∀ x ∈ ([0, 0, 1, 1, 2, 6] : List Int), 0 ≤ x ∧ x ≤ 6) z hz
      have e7' : Ext1 a H6 H7 := (Ext1.new (Ext1.refl e6.feed) nl).trans e7
      refine ⟨z, rfl, by omega, by omega, ?_⟩
      refine for_range (lo := 0) (n := z.toNat) (fun i σ H' => ∃ (ds : List Int) (y6 : Option V), σ = [some (.ref a), some (.int mw), some (.int mr), some (.int wn), some (.ref R), some (.int wd), y6, y7, none, some (.ref A)] ∧ Ext1 a H H' ∧ H' A = some (.lst (ds.map V.int)) ∧ ds.length = wn ∧ (∀ d ∈ ds, 0 ≤ d ∧ d ≤ 6) ∧
          H' R = some (.lst us) ∧ Paired (RdT K H') us rs) ⟨times ws wn, y6, rfl, (e4.trans e6).trans e7', e7'.1 _ _ fA hA, times_len _ _, fun d hd => by have := times_le ws wn d hd; omega, e7'.1 _ _ fR hR6, L2.Paired.mapP hP6 fun _ _ z => RdT.ext e7' e6.feed z⟩ ?_ ?_
      · rintro i σ H8 hi ⟨ds, y6', rfl, e8, hA8, dl, db, hR8, hP8⟩
        refine ⟨_, rfl, (by show 6 ≤ sizeLine; decide), fun l nl => ⟨a, l, [0, 1, 1, 2, 3, 6].map V.int, rfl, (Ext1.new (Ext1.refl e8.feed) nl).feed, .inl (.inl upd_same), e8.feed.ne nl, by decide, by decide, fun H9 v e9 hv => ?_⟩⟩
        obtain ⟨y, rfl, hy⟩ := mem_map_int hv
        have hy6 : 0 ≤ y ∧ y ≤ 6 := (by decide : ∀ x ∈ ([0, 1, 1, 2, 3, 6] : List Int), 0 ≤ x ∧ x ≤ 6) y hy
        have e9' : Ext1 a H8 H9 := (Ext1.new (Ext1.refl e8.feed) nl).trans e9
        refine ⟨_, rfl, _, rfl, _, rfl, a, wn, rfl, e9'.feed, by omega, by omega, fun H10 k e10 k0 k1 => ?_⟩
        have e10' := e9'.trans e10
        have hA10 := e10'.1 _ _ fA hA8
        have hR10 := e10'.1 _ _ fR hR8
        obtain ⟨j, rfl⟩ : ∃ j : Nat, k = (j : Int) := ⟨k.toNat, by omega⟩
        refine ⟨A, _, (j : Int), j, rfl, rfl, hA10, ?_, ds.set j y, some (.int (0 + (i : Int))), rfl, (e8.trans e10').own nA0 fA, ?_, by simp [dl], ?_, ?_, ?_⟩
        · rw [List.length_map, dl]
          unfold ixN
          rw [if_pos (by omega), if_pos (by omega)]
          simp
        · rw [upd_same, List.map_set]
        · intro d hd
          rcases List.mem_or_eq_of_mem_set hd with h | h
          · exact db d h
          · rw [h]; exact hy6
        · rw [upd_ne nAR.symm]; exact hR10
        · exact L2.Paired.mapP hP8 fun _ _ z => RdT.upd hA10 (z.ext e10' e8.feed)
      · rintro σ H8 ⟨ds, y6', rfl, e8, hA8, dl, db, hR8, hP8⟩
        refine ⟨_, rfl, _, rfl, (by show 2 ≤ sizeLine; decide), fun p np => ?_⟩
        have hs : Same H8 (upd H8 p (.lst [.ref A, .ref R])) := sameU np
        have npA : p ≠ A := (ne_of_none hA8 np).symm
        have npR : p ≠ R := (ne_of_none hR8 np).symm
        exact q _ p A R ds us rs (e8.new np) (e8.free np) nA0 nR0 upd_same
          ⟨hs _ _ hA8, hs _ _ hR8, L2.Paired.mapP hP8 fun _ _ z => RdT.same hs z, by omega, by omega, db, hrl.1, by rw [dl]; exact hok, nAR⟩ npA npR (by omega) hrl.2
end
end Ew
namespace Ew
open PySem PySem.Spec PyProof.Rows L2
abbrev sIsInt : Stmt := (top 5)
abbrev sIsAmt : Stmt := (top 6)
abbrev sIsAsc : Stmt := (top 7)
abbrev sAreDem : Stmt := (top 11)
abbrev sIsRd : Stmt := (top 12)
def isI : V → Bool
  | .int _ => true
  | _ => false
def amt : V → Bool
  | .int i => decide (0 ≤ i) && decide (i ≤ 6)
  | _ => false
def ascV (n : Int) : Int → List V → Bool
  | _, [] => true
  | l, .int i :: r => decide (l < i) && decide (i < n) && ascV n i r
  | _, _ :: _ => false
/-- a value of a built-in type (of which what is asked about it stays) -/
def Bt (K : PySem.W.Frag) (H : Hp) (x : V) (T : String) : Prop := TyX K H x (.type T)
def spIsInt (K : PySem.W.Frag) : Sp := fun vs H Q _ => ∃ (x : V) (T : String), vs = [x] ∧ Bt K H x T ∧ Q (.bl (isI x)) H
def spIsAmt (K : PySem.W.Frag) : Sp := fun vs H Q _ => ∃ (x : V) (T : String), vs = [x] ∧ Bt K H x T ∧ Q (.bl (amt x)) H
def spIsAsc (K : PySem.W.Frag) : Sp := fun vs H Q _ => ∃ (x : V) (n : Int), vs = [x, .int n] ∧ ((∃ T, Bt K H x T ∧ T ≠ "tuple" ∧ Q (.bl false) H) ∨ ∃ t xs, x = .ref t ∧ SqT K H t xs ∧ (∀ y ∈ xs, ∃ T, Bt K H y T) ∧ Q (.bl (ascV n (-1) xs)) H)
def spAreDem (K : PySem.W.Frag) : Sp := fun vs H Q _ => ∃ (x : V), vs = [x] ∧ ((∃ T, Bt K H x T ∧ T ≠ "list" ∧ Q (.bl false) H) ∨ ∃ a xs, x = .ref a ∧ SqL K H a xs ∧ Bt K H x "list" ∧ xs.length ≤ 1000 ∧ (∀ y ∈ xs, ∃ T, Bt K H y T) ∧
  ∀ H', Same H H' → Q (.bl (decide (1 ≤ xs.length ∧ xs.length ≤ 6) && xs.all amt)) H')
def rdV (K : PySem.W.Frag) (H : Hp) (n : Int) (x : V) (b : Bool) : Prop :=
  (∃ T, Bt K H x T ∧ T ≠ "tuple" ∧ b = false) ∨ (∃ t xs, x = .ref t ∧ SqT K H t xs ∧ xs.length ≠ 2 ∧ b = false) ∨
  (∃ t y z, x = .ref t ∧ SqT K H t [y, z] ∧ (∃ T, Bt K H y T) ∧ ((∃ T, Bt K H z T ∧ T ≠ "tuple" ∧ b = false) ∨ ∃ m ys, z = .ref m ∧ SqT K H m ys ∧ (∀ u ∈ ys, ∃ T, Bt K H u T) ∧ b = (amt y && ascV n (-1) ys)))
def spIsRd (K : PySem.W.Frag) : Sp := fun vs H Q _ => ∃ (x : V) (n : Int) (b : Bool), vs = [x, .int n] ∧ rdV K H n x b ∧ Q (.bl b) H
theorem isI_of {K : PySem.W.Frag} {H : Hp} {x : V} {T : String} (h : Bt K H x T) : PySem.W.kitOne K (.type T) (.type "int") = some (decide (T = "int" ∨ T = "bool")) ∧ PySem.W.kitOne K (.type T) (.type "bool") = some (decide (T = "bool")) ∧ isI x = decide (T = "int") := by
  cases h with
  | base b => cases b <;> exact ⟨kit_ty (by decide +kernel), kit_ty (by decide +kernel), rfl⟩
  | _ => exact ⟨kit_ty (by decide +kernel), kit_ty (by decide +kernel), rfl⟩
theorem isT_of {K : PySem.W.Frag} {H : Hp} {x : V} {T : String} (h : Bt K H x T) : PySem.W.kitOne K (.type T) (.type "tuple") = some (decide (T = "tuple")) ∧ PySem.W.kitOne K (.type T) (.type "list") = some (decide (T = "list")) := by
  cases h with
  | base b => cases b <;> exact ⟨kit_ty (by decide +kernel), kit_ty (by decide +kernel)⟩
  | _ => exact ⟨kit_ty (by decide +kernel), kit_ty (by decide +kernel)⟩
theorem bt_tup {K : PySem.W.Frag} {H : Hp} {t : Addr} {xs : List V} (h : SqT K H t xs) : Bt K H (.ref t) "tuple" := by
  rcases h with (h | ⟨o, h⟩) | ⟨o, its, n, h, c, _⟩
  · exact .base (.tup h)
  · exact .fTuple h
  · exact .kTuple h c
theorem bt_lst {K : PySem.W.Frag} {H : Hp} {t : Addr} {xs : List V} (h : SqL K H t xs) : Bt K H (.ref t) "list" := by
  rcases h with (h | ⟨o, h⟩) | ⟨o, its, n, h, c, _⟩
  · exact .base (.lst h)
  · exact .base (.frz h)
  · exact .kList h c
theorem isI_int {x : V} (h : isI x = true) : ∃ i, x = .int i := by
  cases x <;> first | exact ⟨_, rfl⟩ | cases h
theorem amt_not {x : V} (h : isI x = false) : amt x = false := by
  cases x <;> first | rfl | cases h
/-- what stands of the package's small defs -/
structure Vals1 (K : PySem.W.Frag) (mg : Str → Option Value) : Prop where
  bi : Bi mg
  ga : ∃ t, mg "GREATEST_AMOUNT" = some (.int 6 t)
  mw : ∃ t, mg "MOST_WORKS" = some (.int 6 t)
  mr : ∃ t, mg "MOST_READERS" = some (.int 6 t)
  isInt : ∃ f fd, Fun K "is_integer" "is_integer" sIsInt f fd ∧ Binds K fd ["value"] [] ∧ mg "is_integer" = some (.ref f)
  isAmt : ∃ f fd, Fun K "is_amount" "is_amount" sIsAmt f fd ∧ Binds K fd ["value"] [] ∧ mg "is_amount" = some (.ref f)
  isAsc : ∃ f fd, Fun K "is_ascending" "is_ascending" sIsAsc f fd ∧ Binds K fd ["value", "many"] [] ∧ mg "is_ascending" = some (.ref f)
  areDem : ∃ f fd, Fun K "are_demands" "are_demands" sAreDem f fd ∧ Binds K fd ["value"] [] ∧ mg "are_demands" = some (.ref f)
  isRd : ∃ f fd, Fun K "is_reader" "is_reader" sIsRd f fd ∧ Binds K fd ["value", "many"] [] ∧ mg "is_reader" = some (.ref f)
section
variable {P : Program} {w : World} {K : PySem.W.Frag} {mg : Str → Option Value} {base : Heap}
theorem scIsInt : FnScope ["value"] ["value"] (defScope sIsInt) := ⟨rfl, rfl, rfl, by decide +kernel, rfl, by decide +kernel, by decide +kernel⟩
theorem ok_isInt {f : Addr} {fd : FuncData} (F : Fun K "is_integer" "is_integer" sIsInt f fd) (B : Bi mg) : FnOk P w K mg base CX0 1 f fd ["value"] (spIsInt K) := by
  refine F.ok scIsInt (fun vs H Q E h => ?_) (fun cdv A outer s H vs Q E hr h => ?_)
  · obtain ⟨x, T, rfl, _⟩ := h
    rfl
  · obtain ⟨x, T, rfl, hT, q⟩ := h
    refine ⟨_, pss_one (ps_ret (pe_and (pe_callB call_isi (by rfl) B.isinstance (by decide +kernel) (pa_cons (pv 0) (pa_cons (pe_bltn (v := .ty "int") (by rfl) B.int (by decide +kernel) rfl) pa_nil)))
      (pe_one (pe_not (pe_callB call_isi (by rfl) B.isinstance (by decide +kernel) (pa_cons (pv 0) (pa_cons (pe_bltn (v := .ty "bool") (by rfl) B.bool (by decide +kernel) rfl) pa_nil))))))), ?_⟩
    obtain ⟨k1, k2, e⟩ := isI_of hT
    refine ⟨x, rfl, x, .ty "int", _, _, _, rfl, .ty _, hT, k1, _, rfl, ?_⟩
    refine ite2 (fun c => ?_) (fun c => ?_)
    · refine ⟨x, rfl, x, .ty "bool", _, _, _, rfl, .ty _, hT, k2, _, rfl, ?_⟩
      have : (!decide (T = "bool")) = isI x := by
        rw [e]
        rcases of_decide_eq_true c with h | h
        · subst h; decide
        · subst h; decide
      rw [this]
      exact q
    · have : false = isI x := by
        rw [e]
        have h : ¬ (T = "int" ∨ T = "bool") := fun h => c (decide_eq_true h)
        exact (decide_eq_false fun h' => h (.inl h')).symm
      rw [this]
      exact q
theorem scIsAmt : FnScope ["value"] ["value"] (defScope sIsAmt) := ⟨rfl, rfl, rfl, by decide +kernel, rfl, by decide +kernel, by decide +kernel⟩
theorem ok_isAmt {f : Addr} {fd : FuncData} (F : Fun K "is_amount" "is_amount" sIsAmt f fd) (L : Vals1 K mg) : FnOk P w K mg base CX0 2 f fd ["value"] (spIsAmt K) := by
  obtain ⟨B, ⟨tg, ga⟩, _, _, ⟨fI, fdI, FI, bI, gI⟩, _⟩ := L
  have GI : FnOk P w K mg base CX0 1 fI fdI ["value"] (spIsInt K) := ok_isInt FI B
  refine F.ok scIsAmt (fun vs H Q E h => ?_) (fun cdv A outer s H vs Q E hr h => ?_)
  · obtain ⟨x, T, rfl, _⟩ := h
    rfl
  · obtain ⟨x, T, rfl, hT, q⟩ := h
    refine ⟨_, pss_one (ps_ret (pe_and (pe_call GI hr (by rfl) gI FI.kp bI .nil pass0 (pa_cons (pv 0) pa_nil)) (pe_one (pe_chain op_le op_le pe_int (pv 0) (pe_glob (v := .int 6) (by rfl) ga ⟨_, rfl⟩))))), ?_⟩
    refine ⟨x, rfl, x, T, rfl, hT, _, rfl, ?_⟩
    refine ite2 (fun c => ?_) (fun c => ?_)
    · obtain ⟨i, rfl⟩ := isI_int c
      refine ⟨_, rfl, _, _, rfl, rfl, _, rfl, ite2 (fun c => ?_) (fun c => ?_)⟩
      · refine ⟨_, _, rfl, rfl, ?_⟩
        have : amt (.int i) = decide (i ≤ 6) := by show (_ && _) = _; rw [c]; rfl
        rw [this] at q
        exact q
      · have : amt (.int i) = false := by show (_ && _) = _; rw [Bool.eq_false_iff.mpr c]; rfl
        rw [this] at q
        exact q
    · rw [amt_not (Bool.eq_false_iff.mpr c)] at q
      exact q
theorem scIsAsc : FnScope ["value", "many", "last", "item"] ["value", "many"] (defScope sIsAsc) := ⟨rfl, rfl, rfl, by decide +kernel, rfl, by decide +kernel, by decide +kernel⟩
theorem ok_isAsc {f : Addr} {fd : FuncData} (F : Fun K "is_ascending" "is_ascending" sIsAsc f fd) (L : Vals1 K mg) : FnOk P w K mg base CX0 2 f fd ["value", "many"] (spIsAsc K) := by
  obtain ⟨B, _, _, _, ⟨fI, fdI, FI, bI, gI⟩, _⟩ := L
  have GI : FnOk P w K mg base CX0 1 fI fdI ["value"] (spIsInt K) := ok_isInt FI B
  refine F.ok scIsAsc (fun vs H Q E h => ?_) (fun cdv A outer s H vs Q E hr h => ?_)
  · obtain ⟨x, n, rfl, _⟩ := h
    rfl
  · obtain ⟨x, n, rfl, h⟩ := h
    refine ⟨_, pss_cons (ps_if (pt_not (pt_val (pe_callB call_isi (by rfl) B.isinstance (by decide +kernel) (pa_cons (pv 0) (pa_cons (pe_bltn (v := .ty "tuple") (by rfl) B.tuple (by decide +kernel) rfl) pa_nil))))) (pss_one (ps_ret pe_bl)) pss_nil)
      (pss_cons (ps_set (i := 2) scIsAsc.nd rfl (.inl rfl) (pe_un un_neg pe_int))
      (pss_cons (ps_for PassesOwn.never rfl (pi_tup (pv 0)) (pg_name (i := 3) scIsAsc.nd rfl (.inl rfl))
        (pss_cons (ps_if (PW.pt (pw_or (pt_not (pt_val (pe_call GI hr (by rfl) gI FI.kp bI .nil pass0 (pa_cons (pv 3) pa_nil)))) (pw_or1 (pt_not (pt_chain op_lt op_lt (pv 2) (pv 3) (pv 1)))))) (pss_one (ps_ret pe_bl)) pss_nil)
          (pss_one (ps_set (i := 2) scIsAsc.nd rfl (.inl rfl) (pv 3)))))
      (pss_one (ps_ret pe_bl)))), ?_⟩
    rcases h with ⟨T, hT, nT, q⟩ | ⟨t, xs, rfl, hS, hty, q⟩
    · obtain ⟨k1, _⟩ := isT_of hT
      rw [decide_eq_false nT] at k1
      refine ⟨x, rfl, x, .ty "tuple", _, _, _, rfl, .ty _, hT, k1, _, rfl, ?_⟩
      exact q
    · obtain ⟨k1, _⟩ := isT_of (bt_tup hS)
      refine ⟨_, rfl, _, .ty "tuple", _, _, _, rfl, .ty _, bt_tup hS, k1, _, rfl, ?_⟩
      show (if (!decide ("tuple" = "tuple")) = true then _ else _)
      refine iteNS rfl ?_
      refine ⟨1, rfl, ?_⟩
      refine ⟨_, rfl, t, rfl, ⟨_, hS⟩, for_tup (K := K) (a := t) (xs := xs) (fun i σ H' => ∃ (l : Int) (y : Option V), σ = [some (.ref t), some (.int n), some (.int l), y] ∧ H' = H ∧ ascV n (-1) xs = ascV n l (xs.drop i)) ⟨-1, none, rfl, rfl, rfl⟩ (fun i σ H' _ ⟨_, _, _, e, _⟩ => e ▸ hS) ?_ ?_⟩
      · rintro i x σ H' hx ⟨l, y, rfl, rfl, e⟩
        obtain ⟨T, hT⟩ := hty x (List.mem_of_getElem? hx)
        have hd : xs.drop i = x :: xs.drop (i + 1) := by
          have hl := (List.getElem?_eq_some_iff.mp hx)
          rw [List.drop_eq_getElem_cons hl.1, hl.2]
        rw [hd] at e
        refine ⟨_, rfl, _, T, rfl, hT, _, rfl, ?_⟩
        cases hi : isI x with
        | false =>
          have : ascV n l (x :: xs.drop (i + 1)) = false := by cases x <;> first | rfl | cases hi
          rw [e, this] at q
          exact q
        | true =>
          obtain ⟨z, rfl⟩ := isI_int hi
          refine ⟨_, rfl, _, rfl, _, _, rfl, rfl, _, rfl, ite2 (fun c => ?_) (fun c => ?_)⟩
          · refine ⟨_, rfl, _, _, rfl, rfl, _, rfl, ?_⟩
            show (if (!decide (z < n)) = true then _ else _)
            cases c2 : decide (z < n) with
            | true =>
              refine iteF ?_
              refine ⟨_, rfl, z, _, rfl, rfl, ?_⟩
              rw [e]
              show (decide (l < z) && decide (z < n) && _) = _
              rw [c, c2]
              rfl
            | false =>
              refine iteT ?_
              have : ascV n l (V.int z :: xs.drop (i + 1)) = false := by
                show (decide (l < z) && decide (z < n) && _) = _
                rw [c2, Bool.and_false]
                rfl
              rw [e, this] at q
              exact q
          · refine ⟨_, rfl, ?_⟩
            have : ascV n l (V.int z :: xs.drop (i + 1)) = false := by
              show (decide (l < z) && decide (z < n) && _) = _
              rw [Bool.eq_false_iff.mpr c]
              rfl
            rw [e, this] at q
            exact q
      · rintro σ H' ⟨l, y, rfl, rfl, e⟩
        rw [List.drop_length] at e
        have e' : ascV n (-1) xs = true := e
        rw [e'] at q
        exact q
end
end Ew
namespace Ew
open PySem PySem.Spec PyProof.Rows L2
section
variable {P : Program} {w : World} {K : PySem.W.Frag} {mg : Str → Option Value} {base : Heap}
theorem Bt.same {H H' : Hp} {x : V} {T : String} (s : Same H H') (h : Bt K H x T) : Bt K H' x T := by
  cases h with
  | base b =>
    cases b with
    | non => exact .base .non
    | bl => exact .base (.bl _)
    | int => exact .base (.int _)
    | str => exact .base (.str _)
    | flt => exact .base (.flt _)
    | lst e => exact .base (.lst (s _ _ e))
    | frz e => exact .base (.frz (s _ _ e))
    | tup e => exact .base (.tup (s _ _ e))
    | dK e => exact .base (.dK (s _ _ e))
    | dT e => exact .base (.dT (s _ _ e))
  | byt => exact .byt _
  | set e => exact .set (s _ _ e)
  | kList e c => exact .kList e c
  | kTuple e c => exact .kTuple e c
  | kDict e c => exact .kDict e c
  | fTuple e => exact .fTuple (s _ _ e)
  | fDict e => exact .fDict (s _ _ e)
theorem scAreDem : FnScope ["value", "demand"] ["value"] (defScope sAreDem) := ⟨rfl, rfl, rfl, by decide +kernel, rfl, by decide +kernel, by decide +kernel⟩
theorem ok_areDem {f : Addr} {fd : FuncData} (F : Fun K "are_demands" "are_demands" sAreDem f fd) (L : Vals1 K mg) : FnOk P w K mg base CX0 3 f fd ["value"] (spAreDem K) := by
  have L' := L
  obtain ⟨B, _, ⟨tw, mw⟩, _, _, ⟨fA, fdA, FA, bA, gA⟩, _⟩ := L'
  have GA : FnOk P w K mg base CX0 2 fA fdA ["value"] (spIsAmt K) := ok_isAmt FA L
  refine F.ok scAreDem (fun vs H Q E h => ?_) (fun cdv A outer s H vs Q E hr h => ?_)
  · obtain ⟨x, rfl, _⟩ := h
    rfl
  · obtain ⟨x, rfl, h⟩ := h
    refine ⟨_, pss_cons (ps_if (PW.pt (pw_or (pt_not (pt_val (pe_callB call_isi (by rfl) B.isinstance (by decide +kernel) (pa_cons (pv 0) (pa_cons (pe_bltn (v := .ty "list") (by rfl) B.list (by decide +kernel) rfl) pa_nil)))))
          (pw_or1 (pt_not (pt_chain op_le op_le pe_int (pe_callB call_len_seq (by rfl) B.len PySem.boot_len (pa_cons (pv 0) pa_nil)) (pe_glob (v := .int 6) (by rfl) mw ⟨_, rfl⟩)))))) (pss_one (ps_ret pe_bl)) pss_nil)
      (pss_one (ps_ret (pe_callB (cr_all rfl) (by rfl) B.all (by decide +kernel) (pa_cons
        (pe_lc (own := [("demand", 1)]) (g := gName 1) (tt := tYes) (te := tCall (spIsAmt K) [] E0 (tCons (tVar 1) tNil)) rfl scAreDem.nd (pi_list (pv 0)) (blkOk_by (own := [("demand", 1)]) (N := ["value", "demand"]) (sc := defScope sAreDem) (by decide +kernel))
          (fun _ _ _ _ _ => pg_name (i := 1) scAreDem.nd rfl (.inl rfl)) (fun _ _ _ _ _ => pts_nil) (fun _ _ _ _ _ => pe_call GA hr (by rfl) gA FA.kp bA .nil pass0 (pa_cons (pv 1) pa_nil))) pa_nil)))), ?_⟩
    rcases h with ⟨T, hT, nT, q⟩ | ⟨a, xs, rfl, hS, hB, hl, hty, q⟩
    · obtain ⟨_, k1⟩ := isT_of hT
      rw [decide_eq_false nT] at k1
      refine ⟨x, rfl, x, .ty "list", _, _, _, rfl, .ty _, hT, k1, _, rfl, ?_⟩
      exact q
    · obtain ⟨_, k1⟩ := isT_of hB
      refine ⟨_, rfl, _, .ty "list", _, _, _, rfl, .ty _, hB, k1, _, rfl, ?_⟩
      show (if (!decide ("list" = "list")) = true then _ else _)
      refine iteNS rfl ?_
      refine ⟨_, rfl, a, xs, rfl, .inl hS, _, _, rfl, rfl, _, rfl, ite2 (fun c => ?_) (fun c => ?_)⟩
      · refine ⟨_, _, rfl, rfl, _, rfl, ?_⟩
        have c1 : (1 : Int) ≤ ((xs.length : Nat) : Int) := of_decide_eq_true c
        show (if (!decide (((xs.length : Nat) : Int) ≤ 6)) = true then _ else _)
        by_cases c6 : ((xs.length : Nat) : Int) ≤ 6
        · refine iteNS c6 ?_
          refine ⟨_, rfl, a, rfl, ⟨_, hS⟩, fun D nD => ?_⟩
          refine lc_list (K := K) (a := a) (xs := xs) (fun i H' => Same H H' ∧ H' D = some (.lst (((xs.take i).map amt).map V.bl))) ⟨sameU nD, upd_same⟩ (fun i H' _ ⟨e, _⟩ => e.seq hS) ?_ ?_
          · rintro i x H1 hx ⟨s1, hD⟩
            obtain ⟨T, hT⟩ := hty x (List.mem_of_getElem? hx)
            refine ⟨rfl, ?_⟩
            dsimp only [tYes]
            refine iteT ?_
            refine ⟨_, rfl, x, T, rfl, hT.same s1, _, hD, szl (by rw [List.length_map, List.length_map, List.length_take]; omega), same_own s1 nD, ?_⟩
            rw [upd_same, take_more hx, List.map_append, List.map_append]
            rfl
          · rintro H1 ⟨s1, hD⟩
            rw [List.take_length] at hD
            refine ⟨D, _, rfl, .inl (.inl hD), ?_⟩
            have q' := q H1 s1
            have e1 : decide (1 ≤ xs.length ∧ xs.length ≤ 6) = true := decide_eq_true (by omega)
            have e2 : (xs.map amt).all id = xs.all amt := by rw [List.all_map]; rfl
            rw [e1, Bool.true_and, ← e2] at q'
            exact q'
        · rw [decide_eq_false c6]
          refine iteT ?_
          have e1 : decide (1 ≤ xs.length ∧ xs.length ≤ 6) = false := decide_eq_false (by omega)
          have q' := q H (Same.refl H)
          rw [e1] at q'
          exact q'
      · refine ⟨_, rfl, ?_⟩
        have c1 : ¬ (1 : Int) ≤ ((xs.length : Nat) : Int) := fun h => c (decide_eq_true h)
        have e1 : decide (1 ≤ xs.length ∧ xs.length ≤ 6) = false := decide_eq_false (by omega)
        have q' := q H (Same.refl H)
        rw [e1] at q'
        exact q'
theorem scIsRd : FnScope ["value", "many", "limit", "may"] ["value", "many"] (defScope sIsRd) := ⟨rfl, rfl, rfl, by decide +kernel, rfl, by decide +kernel, by decide +kernel⟩
theorem ok_isRd {f : Addr} {fd : FuncData} (F : Fun K "is_reader" "is_reader" sIsRd f fd) (L : Vals1 K mg) : FnOk P w K mg base CX0 3 f fd ["value", "many"] (spIsRd K) := by
  have L' := L
  obtain ⟨B, _, _, _, _, ⟨fA, fdA, FA, bA, gA⟩, ⟨fC, fdC, FC, bC, gC⟩, _⟩ := L'
  have GA : FnOk P w K mg base CX0 2 fA fdA ["value"] (spIsAmt K) := ok_isAmt FA L
  have GC : FnOk P w K mg base CX0 2 fC fdC ["value", "many"] (spIsAsc K) := ok_isAsc FC L
  refine F.ok scIsRd (fun vs H Q E h => ?_) (fun cdv A outer s H vs Q E hr h => ?_)
  · obtain ⟨x, n, b, rfl, _⟩ := h
    rfl
  · obtain ⟨x, n, b, rfl, h, q⟩ := h
    refine ⟨_, pss_cons (ps_if (PW.pt (pw_or (pt_not (pt_val (pe_callB call_isi (by rfl) B.isinstance (by decide +kernel) (pa_cons (pv 0) (pa_cons (pe_bltn (v := .ty "tuple") (by rfl) B.tuple (by decide +kernel) rfl) pa_nil)))))
          (pw_or1 (pt_cmpR op_ne (pe_callB call_len_seq (by rfl) B.len PySem.boot_len (pa_cons (pv 0) pa_nil)) pe_int (nomark _))))) (pss_one (ps_ret pe_bl)) pss_nil)
      (pss_cons (ps_asg (pv 0) (pg_tup (by rfl) (pgs_cons (pg_name (i := 2) scIsRd.nd rfl (.inl rfl)) (pgs_cons (pg_name (i := 3) scIsRd.nd rfl (.inl rfl)) pgs_nil))))
      (pss_one (ps_ret (pe_and (pe_call GA hr (by rfl) gA FA.kp bA .nil pass0 (pa_cons (pv 2) pa_nil)) (pe_one (pe_call GC hr (by rfl) gC FC.kp bC .nil pass0 (pa_cons (pv 3) (pa_cons (pv 1) pa_nil)))))))), ?_⟩
    rcases h with ⟨T, hT, nT, rfl⟩ | ⟨t, xs, rfl, hS, hl, rfl⟩ | ⟨t, y, z, rfl, hS, ⟨Ty, hy⟩, hz⟩
    · obtain ⟨k1, _⟩ := isT_of hT
      rw [decide_eq_false nT] at k1
      refine ⟨x, rfl, x, .ty "tuple", _, _, _, rfl, .ty _, hT, k1, _, rfl, ?_⟩
      exact q
    · obtain ⟨k1, _⟩ := isT_of (bt_tup hS)
      refine ⟨_, rfl, _, .ty "tuple", _, _, _, rfl, .ty _, bt_tup hS, k1, _, rfl, ?_⟩
      show (if (!decide ("tuple" = "tuple")) = true then _ else _)
      refine iteNS rfl ?_
      refine ⟨_, rfl, t, xs, rfl, .inr hS, rfl, _, rfl, ?_⟩
      have e : decide (V.int ((xs.length : Nat) : Int) = V.int 2) = false := decide_eq_false fun h => hl (by have := V.int.inj h; omega)
      rw [e]
      exact q
    · obtain ⟨k1, _⟩ := isT_of (bt_tup hS)
      refine ⟨_, rfl, _, .ty "tuple", _, _, _, rfl, .ty _, bt_tup hS, k1, _, rfl, ?_⟩
      show (if (!decide ("tuple" = "tuple")) = true then _ else _)
      refine iteNS rfl ?_
      refine ⟨_, rfl, t, _, rfl, .inr hS, rfl, _, rfl, ?_⟩
      refine iteF ?_
      refine ⟨_, rfl, t, _, rfl, hS, rfl, _, _, rfl, _, _, rfl, rfl, ?_⟩
      refine ⟨_, rfl, y, Ty, rfl, hy, _, rfl, ?_⟩
      rcases hz with ⟨T, hT, nT, rfl⟩ | ⟨m, ys, rfl, hM, hu, rfl⟩
      · cases amt y with
        | true => exact iteT ⟨_, rfl, _, rfl, z, _, rfl, .inl ⟨T, hT, nT, q⟩⟩
        | false => exact iteF q
      · cases ey : amt y with
        | true =>
          rw [ey] at q
          exact iteT ⟨_, rfl, _, rfl, _, _, rfl, .inr ⟨m, ys, rfl, hM, hu, q⟩⟩
        | false =>
          rw [ey] at q
          exact iteF q
end
end Ew
namespace Ew
open PySem PySem.Spec PyProof.Rows L2
abbrev sBkInit : Stmt := (inClass (top 13) 0)
abbrev sBkDem : Stmt := (inClass (top 13) 1)
abbrev sBkRd : Stmt := (inClass (top 13) 2)
abbrev sBkEq : Stmt := (inClass (top 13) 4)
theorem rd_ : ¬ (("_readers" : Str) = "_demands") := by decide +kernel
theorem dr_ : ¬ (("_demands" : Str) = "_readers") := by decide +kernel
def bf (A R : Addr) : List (Str × V) := putF "_readers" (.ref R) (putF "_demands" (.ref A) [])
theorem bf_dem (A R : Addr) : (bf A R).lookup ("_demands" : Str) = some (.ref A) := by
  unfold bf
  rw [lookup_putF, if_neg dr_, lookup_putF, if_pos rfl]
theorem bf_rd (A R : Addr) : (bf A R).lookup ("_readers" : Str) = some (.ref R) := by
  unfold bf
  rw [lookup_putF, if_pos rfl]
theorem bf_no (A R : Addr) {m : Str} (h1 : ¬ m = "_readers") (h2 : ¬ m = "_demands") : (bf A R).lookup m = none := by
  unfold bf
  rw [lookup_putF, if_neg h1, lookup_putF, if_neg h2]
  all_goals rfl
/-- a book stands at x: of ds and the readers us, which are rs; its lists are not the feed -/
def IsBook (K : PySem.W.Frag) (C f : Addr) (H : Hp) (x : Addr) (ds : List Int) (us : List V) (rs : List (Int × List Int)) : Prop :=
  ∃ dx A R, H x = some (.ins C dx (bf A R)) ∧ H A = some (.lst (ds.map V.int)) ∧ H R = some (.lst us) ∧ A ≠ f ∧ R ≠ f ∧ Paired (RdT K H) us rs
theorem IsBook.same {K : PySem.W.Frag} {C f x : Addr} {H H' : Hp} {ds us rs} (h : IsBook K C f H x ds us rs) (s : Same H H') : IsBook K C f H' x ds us rs := by
  obtain ⟨dx, A, R, h1, h2, h3, h4, h5, h6⟩ := h
  exact ⟨dx, A, R, s _ _ h1, s _ _ h2, s _ _ h3, h4, h5, L2.Paired.mapP h6 fun _ _ z => z.same s⟩
theorem IsBook.ext {K : PySem.W.Frag} {C f x : Addr} {H H' : Hp} {ds us rs} (h : IsBook K C f H x ds us rs) (hf : FeedAt H f) (s : Ext1 f H H') : IsBook K C f H' x ds us rs := by
  obtain ⟨dx, A, R, h1, h2, h3, h4, h5, h6⟩ := h
  have nx : x ≠ f := fun e => by
    obtain ⟨d, z, hz⟩ := hf
    rw [e, hz] at h1; cases h1
  exact ⟨dx, A, R, s.1 _ _ nx h1, s.1 _ _ h4 h2, s.1 _ _ h5 h3, h4, h5, L2.Paired.mapP h6 fun _ _ z => z.ext s hf⟩
/-- demands and readers as they may be -/
structure DsOk (ds : List Int) (rs : List (Int × List Int)) : Prop where
  n1 : 1 ≤ ds.length
  n6 : ds.length ≤ 6
  d6 : ∀ d ∈ ds, 0 ≤ d ∧ d ≤ 6
  r6 : rs.length ≤ 6
  ok : RdsAt ds.length rs
theorem BookAt.dsOk {K : PySem.W.Frag} {H : Hp} {A R : Addr} {ds us rs} (b : BookAt K H A R ds us rs) : DsOk ds rs := ⟨b.n1, b.n6, b.d6, b.r6, b.ok⟩
theorem bt_int {K : PySem.W.Frag} {H : Hp} (i : Int) : Bt K H (.int i) "int" := .base (.int i)
theorem ascV_ok {n : Int} : ∀ {l : List Int} {lo : Int}, l.Pairwise (· < ·) → (∀ x ∈ l, lo < x ∧ x < n) → ascV n lo (l.map V.int) = true
  | [], _, _, _ => rfl
  | x :: l, lo, hp, hb => by
    have hx := hb x (by simp)
    have hp' := List.pairwise_cons.mp hp
    show (decide (lo < x) && decide (x < n) && ascV n x (l.map V.int)) = true
    rw [decide_eq_true hx.1, decide_eq_true hx.2, ascV_ok hp'.2 fun y hy => ⟨hp'.1 y hy, (hb y (by simp [hy])).2⟩]
    rfl
theorem amt_ok {i : Int} (h : 0 ≤ i ∧ i ≤ 6) : amt (.int i) = true := by
  show (decide (0 ≤ i) && decide (i ≤ 6)) = true
  rw [decide_eq_true h.1, decide_eq_true h.2]
  rfl
theorem rdV_ok {K : PySem.W.Frag} {H : Hp} {n : Int} {v : V} {r : Int × List Int} (h : RdT K H v r) (o : RdOk n r) : rdV K H n v true := by
  obtain ⟨t, m, rfl, h1, h2⟩ := h
  refine .inr (.inr ⟨t, _, _, rfl, h1, ⟨_, bt_int _⟩, .inr ⟨m, _, rfl, h2, fun u hu => ?_, ?_⟩⟩)
  · obtain ⟨i, _, rfl⟩ := List.mem_map.mp hu
    exact ⟨_, bt_int _⟩
  · rw [amt_ok ⟨o.1, o.2.1⟩, ascV_ok o.2.2.1 fun x hx => by have := o.2.2.2 x hx; omega]
    rfl
def spBkInit (K : PySem.W.Frag) (C : Addr) : Sp := fun vs H Q _ => ∃ (x dx A R : Addr) (ds : List Int) (us : List V) (rs : List (Int × List Int)), vs = [.ref x, .ref A, .ref R] ∧ H x = some (.ins C dx []) ∧ SqL K H A (ds.map V.int) ∧ SqL K H R us ∧ Paired (RdT K H) us rs ∧ DsOk ds rs ∧
  ∀ H' A' R', (∀ b o, b ≠ x → H b = some o → H' b = some o) → H A' = none → H R' = none → H' x = some (.ins C dx (bf A' R')) → H' A' = some (.lst (ds.map V.int)) → H' R' = some (.lst us) → Q .non H'
structure BookTxt (K : PySem.W.Frag) (mg : Str → Option Value) (C : Addr) : Prop where
  cl : Cls K C
  nD : NoAttr K C "_demands"
  nR : NoAttr K C "_readers"
  mgC : mg "Book" = some (.ref C)
  init : ∃ f fd, Fun K "__init__" "Book.__init__" sBkInit f fd ∧ Binds K fd ["self", "demands", "readers"] [] ∧ Mk K C f
  dem : ∃ f fd, Fun K "demands" "Book.demands" sBkDem f fd ∧ Binds K fd ["self"] [] ∧ Meth K C "demands" f
  rd : ∃ f fd, Fun K "readers" "Book.readers" sBkRd f fd ∧ Binds K fd ["self"] [] ∧ Meth K C "readers" f
  eq : ∃ f fd, Fun K "__eq__" "Book.__eq__" sBkEq f fd ∧ Binds K fd ["self", "other"] [] ∧ Meth K C "__eq__" f
  ic : C8.InsC K C
  sub : PySem.W.notFirst K C (.ref C) = true
section
variable {P : Program} {w : World} {K : PySem.W.Frag} {mg : Str → Option Value} {base : Heap} {C : Addr}
theorem scBkInit : FnScope ["self", "demands", "readers", "place", "reader"] ["self", "demands", "readers"] (defScope sBkInit) := ⟨rfl, rfl, rfl, by decide +kernel, rfl, by decide +kernel, by decide +kernel⟩
theorem ok_bkInit {f : Addr} {fd : FuncData} (F : Fun K "__init__" "Book.__init__" sBkInit f fd) (L : Vals1 K mg) (T : BookTxt K mg C) : FnOk P w K mg base CX0 4 f fd ["self", "demands", "readers"] (spBkInit K C) := by
  have L' := L
  obtain ⟨B, _, _, ⟨tr, mr⟩, _, _, _, ⟨fD, fdD, FD, bD, gD⟩, ⟨fR, fdR, FR, bR, gR⟩⟩ := L'
  have GD : FnOk P w K mg base CX0 3 fD fdD ["value"] (spAreDem K) := ok_areDem FD L
  have GR : FnOk P w K mg base CX0 3 fR fdR ["value", "many"] (spIsRd K) := ok_isRd FR L
  refine F.ok scBkInit (fun vs H Q E h => ?_) (fun cdv A outer s H vs Q E hr h => ?_)
  · obtain ⟨x, dx, A, R, ds, us, rs, rfl, _⟩ := h
    rfl
  · obtain ⟨x, dx, A, R, ds, us, rs, rfl, hx, hA, hR, hP, ok, q⟩ := h
    refine ⟨_, pss_cons (ps_if (PW.pt (pw_or (pt_not (pt_val (pe_call GD hr (by rfl) gD FD.kp bD .nil pass0 (pa_cons (pv 1) pa_nil))))
          (pw_or (pt_not (pt_val (pe_callB call_isi (by rfl) B.isinstance (by decide +kernel) (pa_cons (pv 2) (pa_cons (pe_bltn (v := .ty "list") (by rfl) B.list (by decide +kernel) rfl) pa_nil)))))
          (pw_or1 (pt_cmpR op_gt (pe_callB call_len_seq (by rfl) B.len PySem.boot_len (pa_cons (pv 2) pa_nil)) (pe_glob (v := .int 6) (by rfl) mr ⟨_, rfl⟩) (nomark _)))))) (pss_one ps_never) pss_nil)
      (pss_cons (ps_for PassesOwn.never rfl (pi_enum (by rfl) B.enumerate (pa_cons (pv 2) pa_nil)) (pg_tup (by rfl) (pgs_cons (pg_name (i := 3) scBkInit.nd rfl (.inl rfl)) (pgs_cons (pg_name (i := 4) scBkInit.nd rfl (.inl rfl)) pgs_nil)))
        (pss_one (ps_if (pt_not (pt_val (pe_call GR hr (by rfl) gR FR.kp bR .nil pass0 (pa_cons (pv 4) (pa_cons (pe_callB call_len_seq (by rfl) B.len PySem.boot_len (pa_cons (pv 1) pa_nil)) pa_nil))))) (pss_one ps_never) pss_nil)))
      (pss_cons (ps_fld (pv 0) (pe_callTy call_list_of (by rfl) B.list (by decide +kernel) (pa_cons (pv 1) pa_nil)) rfl)
      (pss_one (ps_fld (pv 0) (pe_callTy call_list_of (by rfl) B.list (by decide +kernel) (pa_cons (pv 2) pa_nil)) rfl)))), ?_⟩
    refine ⟨_, rfl, _, rfl, .inr ⟨A, _, rfl, hA, bt_lst hA, by rw [List.length_map]; have := ok.n6; omega, fun y hy => ?_, fun H1 s1 => ?_⟩⟩
    · obtain ⟨i, _, rfl⟩ := List.mem_map.mp hy
      exact ⟨_, bt_int _⟩
    have e1 : (decide (1 ≤ (ds.map V.int).length ∧ (ds.map V.int).length ≤ 6) && (ds.map V.int).all amt) = true := by
      rw [List.length_map, decide_eq_true ⟨ok.n1, ok.n6⟩, Bool.true_and, List.all_map]
      exact List.all_eq_true.mpr fun d hd => amt_ok (ok.d6 d hd)
    rw [e1]
    refine ⟨true, rfl, iteF ?_⟩
    obtain ⟨_, k1⟩ := isT_of (bt_lst (s1.seq hR))
    refine ⟨_, rfl, _, .ty "list", _, _, _, rfl, .ty _, bt_lst (s1.seq hR), k1, _, rfl, ?_⟩
    show (if (!decide ("list" = "list")) = true then _ else _)
    refine iteNS rfl ?_
    have hul : us.length = rs.length := Paired.len hP
    have r6 := ok.r6
    refine ⟨_, rfl, R, us, rfl, .inl (s1.seq hR), _, _, rfl, rfl, _, rfl, ?_⟩
    show (if decide ((6 : Int) < ((us.length : Nat) : Int)) = true then _ else _)
    rw [decide_eq_false (by omega)]
    refine iteF ?_
    refine ⟨_, rfl, R, us, rfl, s1.seq hR, for_it (walk_enum (xs := us)) (fun i σ H' => ∃ y3 y4, σ = [some (.ref x), some (.ref A), some (.ref R), y3, y4] ∧ Same H H') ⟨none, none, rfl, s1⟩ (fun i σ H' _ ⟨_, _, _, e⟩ => e.seq hR) ?_ ?_⟩
    · rintro i v σ H2 H3 hi ⟨y3, y4, rfl, s2⟩ ⟨t, x1, x2, rfl, nt, rfl, f1, f2⟩
      obtain ⟨r, hr2, rd⟩ := Paired.at1 hP f2
      have sT : Same H (upd H2 t (.tup [x1, x2])) := s2.trans (sameU nt)
      refine ⟨t, _, rfl, .inl (.inl upd_same), rfl, _, _, rfl, _, _, rfl, rfl, ?_⟩
      refine ⟨_, rfl, _, rfl, A, _, rfl, .inl (sT.seq hA), x2, _, true, rfl, ?_, true, rfl, ?_⟩
      · rw [List.length_map]
        exact rdV_ok (rd.same sT) (ok.ok r (List.mem_of_getElem? hr2))
      · exact iteF ⟨_, _, rfl, sT⟩
    · rintro σ H2 ⟨y3, y4, rfl, s2⟩
      refine ⟨_, rfl, A, _, rfl, .inl (s2.seq hA), fun A' nA => ?_⟩
      have nxA : x ≠ A' := ne_of_none (s2 _ _ hx) nA
      have sA : Same H (upd H2 A' (.lst (ds.map V.int))) := s2.trans (sameU nA)
      refine ⟨_, rfl, x, C, dx, _, rfl, sA _ _ hx, T.cl, T.nD, by show 0 < 1000; decide, ?_⟩
      have st : ∀ b o, b ≠ x → H b = some o → upd (upd H2 A' (.lst (ds.map V.int))) x (.ins C dx (putF "_demands" (.ref A') [])) b = some o := fun b o nb e => by
        rw [upd_ne nb]; exact sA _ _ e
      have hR2 : SqL K (upd (upd H2 A' (.lst (ds.map V.int))) x (.ins C dx (putF "_demands" (.ref A') []))) R us := by
        rcases hR with (h | ⟨o, h⟩) | h
        · exact .inl (.inl (st _ _ (fun e => by rw [e, hx] at h; cases h) h))
        · exact .inl (.inr ⟨o, st _ _ (fun e => by rw [e, hx] at h; cases h) h⟩)
        · exact .inr h
      refine ⟨_, rfl, R, _, rfl, .inl hR2, fun R' nR => ?_⟩
      have nxR : x ≠ R' := fun e => by rw [← e, upd_same] at nR; cases nR
      have nR1 : upd H2 A' (.lst (ds.map V.int)) R' = none := by rw [upd_ne nxR.symm] at nR; exact nR
      have nAR : A' ≠ R' := fun e => by rw [← e, upd_same] at nR1; cases nR1
      refine ⟨_, rfl, x, C, dx, putF "_demands" (.ref A') [], rfl, ?_, T.cl, T.nR, (by show 1 < 1000; decide), ?_⟩
      · rw [upd_ne nxR, upd_same]
      refine q _ A' R' (fun b o nb e => ?_) (s2.free nA) (sA.free nR1) upd_same ?_ ?_
      · rw [upd_ne nb]
        have nbR : b ≠ R' := ne_of_none (sA _ _ e) nR1
        rw [upd_ne nbR]
        exact st _ _ nb e
      · rw [upd_ne nxA.symm, upd_ne nAR, upd_ne nxA.symm, upd_same]
      · rw [upd_ne nxR.symm, upd_same]
end
end Ew
namespace Ew
open PySem PySem.Spec PyProof.Rows L2
/-! ### rows and readers as data -/
section
variable {α : Type} (g : α → PyData)
theorem layAll_map (h : ∀ x, PyData.canLay0 (g x) = true) : ∀ l : List α, PyData.canLayAll0 (l.map g) = true
  | [] => rfl
  | x :: l => by
    show (PyData.canLay0 (g x) && PyData.canLayAll0 (l.map g)) = true
    rw [h x, layAll_map h l]
    rfl
theorem depAll_map {n : Nat} (h : ∀ x, PyData.depth (g x) ≤ n) : ∀ l : List α, PyData.depthAll (l.map g) ≤ n
  | [] => Nat.zero_le _
  | x :: l => by
    show max (PyData.depth (g x)) (PyData.depthAll (l.map g)) ≤ n
    exact Nat.max_le.mpr ⟨h x, depAll_map h l⟩
theorem eqvAll_inj [DecidableEq α] (h : ∀ x y, PyData.eqv (g x) (g y) = decide (x = y)) : ∀ xs ys : List α, PyData.eqvAll (xs.map g) (ys.map g) = decide (xs = ys)
  | [], [] => by simp [PyData.eqvAll]
  | [], _ :: _ => by simp [PyData.eqvAll]
  | _ :: _, [] => by simp [PyData.eqvAll]
  | x :: xs, y :: ys => by
    show (PyData.eqv (g x) (g y) && PyData.eqvAll (xs.map g) (ys.map g)) = _
    rw [h x y, eqvAll_inj h xs ys]
    by_cases e1 : x = y
    · subst e1
      by_cases e2 : xs = ys
      · subst e2; simp
      · simp [e2]
    · simp [e1]
end
def dI (l : List Int) : PyData := .list (l.map .int)
def dT (l : List Int) : PyData := .tuple (l.map .int)
def dR (r : Int × List Int) : PyData := .tuple [.int r.1, dT r.2]
def dRs (rs : List (Int × List Int)) : PyData := .list (rs.map dR)
def dWs (ws : List (List Int)) : PyData := .list (ws.map dT)
theorem eqv_int (x y : Int) : PyData.eqv (.int x) (.int y) = decide (x = y) := by
  simp [PyData.eqv]
  by_cases h : x = y <;> simp [h]
theorem eqv_dT (x y : List Int) : PyData.eqv (dT x) (dT y) = decide (x = y) := by
  show PyData.eqvAll (x.map .int) (y.map .int) = _
  exact eqvAll_inj _ eqv_int x y
theorem eqv_dI (x y : List Int) : PyData.eqv (dI x) (dI y) = decide (x = y) := by
  show PyData.eqvAll (x.map .int) (y.map .int) = _
  exact eqvAll_inj _ eqv_int x y
theorem eqv_dR (x y : Int × List Int) : PyData.eqv (dR x) (dR y) = decide (x = y) := by
  show PyData.eqvAll [.int x.1, dT x.2] [.int y.1, dT y.2] = _
  show (PyData.eqv (.int x.1) (.int y.1) && (PyData.eqv (dT x.2) (dT y.2) && true)) = _
  rw [eqv_int, eqv_dT]
  obtain ⟨a, b⟩ := x
  obtain ⟨c, d⟩ := y
  by_cases h1 : a = c <;> by_cases h2 : b = d <;> simp [h1, h2]
theorem eqv_dRs (x y : List (Int × List Int)) : PyData.eqv (dRs x) (dRs y) = decide (x = y) := by
  show PyData.eqvAll (x.map dR) (y.map dR) = _
  exact eqvAll_inj _ eqv_dR x y
theorem eqv_dWs (x y : List (List Int)) : PyData.eqv (dWs x) (dWs y) = decide (x = y) := by
  show PyData.eqvAll (x.map dT) (y.map dT) = _
  exact eqvAll_inj _ eqv_dT x y
theorem lay_dT (l : List Int) : PyData.canLay0 (dT l) = true := layAll_map PyData.int (fun _ => rfl) l
theorem dep_dT (l : List Int) : PyData.depth (dT l) ≤ 1 := Nat.succ_le_succ (depAll_map PyData.int (n := 0) (fun _ => Nat.le_refl _) l)
theorem lay_dR (r : Int × List Int) : PyData.canLay0 (dR r) = true := by
  show (true && (PyData.canLay0 (dT r.2) && true)) = true
  rw [lay_dT]
  rfl
theorem dep_dR (r : Int × List Int) : PyData.depth (dR r) ≤ 2 := by
  show max 0 (max (PyData.depth (dT r.2)) 0) + 1 ≤ 2
  have := dep_dT r.2
  omega
theorem shp {d : PyData} {n : Nat} (h1 : PyData.canLay0 d = true) (h2 : PyData.depth d ≤ n) (h3 : n ≤ 64) : SeqAt.shaped d = true := by
  unfold SeqAt.shaped
  rw [h1, decide_eq_true (Nat.le_trans h2 h3)]
  rfl
theorem shp_dT (l : List Int) : SeqAt.shaped (dT l) = true := shp (lay_dT l) (dep_dT l) (by decide)
theorem shp_dI (l : List Int) : SeqAt.shaped (dI l) = true := shp (layAll_map PyData.int (fun _ => rfl) l) (Nat.succ_le_succ (depAll_map PyData.int (n := 0) (fun _ => Nat.le_refl _) l)) (n := 1) (by decide)
theorem shp_dRs (rs : List (Int × List Int)) : SeqAt.shaped (dRs rs) = true := shp (layAll_map dR lay_dR rs) (Nat.succ_le_succ (depAll_map dR dep_dR rs)) (n := 3) (by decide)
theorem shp_dWs (ws : List (List Int)) : SeqAt.shaped (dWs ws) = true := shp (layAll_map dT lay_dT ws) (Nat.succ_le_succ (depAll_map dT dep_dT ws)) (n := 2) (by decide)
section
variable {K : PySem.W.Frag} {H : Hp}
theorem dpAll_ints : ∀ l : List Int, DpAll K H (l.map V.int) (l.map PyData.int)
  | [] => .nil
  | _ :: l => .cons (.int _) (dpAll_ints l)
theorem dpAll_map {α : Type} {R : V → α → Prop} {g : α → PyData} (h : ∀ v a, R v a → Dp K H v (g a)) : ∀ {vs : List V} {as : List α}, Paired R vs as → DpAll K H vs (as.map g)
  | _, _, .nil => .nil
  | _, _, .cons r t => .cons (h _ _ r) (dpAll_map h t)
theorem dp_dI {a : Addr} {l : List Int} (h : SqL K H a (l.map V.int)) : Dp K H (.ref a) (dI l) := .lst h (dpAll_ints l)
theorem dp_dT {v : V} {l : List Int} (h : RowT K H v l) : Dp K H v (dT l) := let ⟨_, e, q⟩ := h; e ▸ .tup q (dpAll_ints l)
theorem dp_dR {v : V} {r : Int × List Int} (h : RdT K H v r) : Dp K H v (dR r) := let ⟨_, _, e, q, q2⟩ := h; e ▸ .tup q (.cons (.int _) (.cons (dp_dT ⟨_, rfl, q2⟩) .nil))
theorem dp_dRs {a : Addr} {us : List V} {rs : List (Int × List Int)} (h : SqL K H a us) (p : Paired (RdT K H) us rs) : Dp K H (.ref a) (dRs rs) := .lst h (dpAll_map (g := dR) (fun _ _ z => dp_dR z) p)
theorem dp_dWs {a : Addr} {us : List V} {ws : List (List Int)} (h : SqL K H a us) (p : Paired (RowT K H) us ws) : Dp K H (.ref a) (dWs ws) := .lst h (dpAll_map (g := dT) (fun _ _ z => dp_dT z) p)
end
/-! ### == and != by an own __eq__, of anything -/
section
variable {prog : Program} {w : World} {A : Around} {E : Value → Shared → Prop}
/-- the type of a value, looked at -/
theorem looksT {X : Cx} {pins : List (Addr × Obj)} {σ : L2.St} {H : Hp} {s : Shared} {x : V} {u t : Value} (I : Inv X pins σ H s) (rx : RelV x u) (ty : TyX X.K H x t) : PySem.W.Looks (model X.prog X.w) s.heap (typeOf u) t := by
  have one : ∀ (a : Addr) (o : Obj), s.heap.get? a = some o → o.cls = t → PySem.W.Looks (model X.prog X.w) s.heap (typeOf (.ref a)) t := fun a o ho hc A Q E s' k q => wpAny_typeOf_ref (k _ _ ho) (by rw [hc]; exact q)
  cases ty with
  | base b =>
    cases b with
    | non => cases (show u = Value.none from rx); exact fun A Q E s' k q => wpAny_pure q
    | bl y => cases (show u = Value.bool y from rx); exact fun A Q E s' k q => wpAny_pure q
    | int i => obtain ⟨t, q⟩ := (show ∃ t, u = Value.int i t from rx); cases q; exact fun A Q E s' k q => wpAny_pure q
    | str y => obtain ⟨t, q⟩ := (show ∃ t, u = Value.str y t from rx); cases q; exact fun A Q E s' k q => wpAny_pure q
    | flt y => obtain ⟨t, q⟩ := (show ∃ t, u = Value.float y t from rx); cases q; exact fun A Q E s' k q => wpAny_pure q
    | @lst a xs ea =>
      cases (show u = Value.ref a from rx)
      obtain ⟨_, _, n, _, h1⟩ := (show ObjOk X.prog X.w H s.heap a (.lst xs) from I.hok a _ ea)
      exact one _ _ h1 rfl
    | @frz a ob xs ea =>
      cases (show u = Value.ref a from rx)
      obtain ⟨_, _, _, n, _, h1⟩ := (show ObjOk X.prog X.w H s.heap a (.frz ob (.lst xs)) from I.hok a _ ea)
      exact one _ _ h1 rfl
    | @tup a xs ea =>
      cases (show u = Value.ref a from rx)
      obtain ⟨_, _, _, o, h1, h2, _⟩ := (show ObjOk X.prog X.w H s.heap a (.tup xs) from I.hok a _ ea)
      exact one _ _ h1 h2
    | @dK a kvs ea =>
      cases (show u = Value.ref a from rx)
      obtain ⟨_, _, vs, _, o, es, ep, h1, h2, _⟩ := (show ObjOk X.prog X.w H s.heap a (.dK kvs) from I.hok a _ ea)
      exact one _ _ h1 h2.1
    | @dT a kvs ea =>
      cases (show u = Value.ref a from rx)
      obtain ⟨_, _, xs, _, o, es, ep, h1, h2, _⟩ := (show ObjOk X.prog X.w H s.heap a (.dT kvs) from I.hok a _ ea)
      exact one _ _ h1 h2.1
    | @ins a C dx fs ea cl ha hn htk hm =>
      cases (show u = Value.ref a from rx)
      obtain ⟨mA, O, _⟩ := ins_get I.hok ea
      obtain ⟨od, J, _⟩ := O.look
      exact J.type
  | byt y => obtain ⟨t, q⟩ := (show ∃ t, u = Value.bytes y t from rx); cases q; exact fun A Q E s' k q => wpAny_pure q
  | @set a S n ea =>
    cases (show u = Value.ref a from rx)
    obtain ⟨o, _, _, _, e, ex, _⟩ := I.hok a _ ea
    exact one _ _ e ex.1
  | @kList a o e c =>
    cases (show u = Value.ref a from rx)
    exact one _ _ (I.kIn a o e) c
  | @kTuple a o e c =>
    cases (show u = Value.ref a from rx)
    exact one _ _ (I.kIn a o e) c
  | @kDict a o e c =>
    cases (show u = Value.ref a from rx)
    exact one _ _ (I.kIn a o e) c
  | @fTuple a ob xs ea =>
    cases (show u = Value.ref a from rx)
    obtain ⟨_, _, _, _, o, h1, h2, _⟩ := (show ObjOk X.prog X.w H s.heap a (.frz ob (.tup xs)) from I.hok a _ ea)
    exact one _ _ h1 h2
  | @fDict a ob kvs ea =>
    cases (show u = Value.ref a from rx)
    obtain ⟨_, _, _, vs, _, o, es, ep, h1, h2, _⟩ := (show ObjOk X.prog X.w H s.heap a (.frz ob (.dK kvs)) from I.hok a _ ea)
    exact one _ _ h1 h2.1
end
/-- x == y, x an instance of the class at C with an own __eq__ whose promise is sp; y of a type that has no say -/
def rOwnEq (K : PySem.W.Frag) (C : Addr) (sp : Sp) (neg : Bool) : R2 := fun x y H Q => ∃ a dx fs t, x = .ref a ∧ H a = some (.ins C dx fs) ∧ TyX K H y t ∧ PySem.W.notFirst K C t = true ∧
  sp [x, y] H (fun v H' => ∃ b, v = .bl b ∧ Q (.bl (if neg then !b else b)) H') E0
section
variable {X : Cx} {n : Nat} {C f : Addr} {fd : FuncData} {ps : List Str} {sp : Sp}
theorem op_eqOwn (F : FnOk X.prog X.w X.K X.mg X.base CX0 n f fd ps sp) (hr : Room n X.A) (hs : PySem.W.findIn X.K (.ref C) "__eq__" = some (some (.ref f))) (hf : PySem.W.isFn X.K (.ref f) = true) (hb : Binds X.K fd ps []) :
    OpR X (compareOp .Eq) (rOwnEq X.K C sp false) := by
  intro pins s σ H x y v u Q I rx ry hq
  obtain ⟨a, dx, fs, t, rfl, ha, ty, hn, hsp⟩ := hq
  cases rx
  obtain ⟨mA, J, _⟩ := ins_get I.hok ha
  obtain ⟨od, J, _⟩ := J.look
  obtain ⟨m, hF⟩ := I.fr
  show wpAny (model X.prog X.w) X.A (richCompare .Eq (.ref a) u) (EP X pins σ Q) X.xe s
  refine PySem.W.cmp_K (op := .Eq) (tb := t) hr.units0 hF I.ok.mod.kin J (looksT I ry ty) hn hs hf ?_
  refine wpAny_mono (run_fn (vs := [V.ref a, y]) (us := [Value.ref a, u]) F hr hb .nil pass0 I (.cons rfl (.cons ry .nil)) hsp) (fun r s' hq => ?_) fun _ _ h => h
  obtain ⟨z, H', I', rz, b, ez, q⟩ := hq
  subst ez
  cases rz
  exact ⟨.bl b, H', I', rfl, q⟩
end
end Ew
namespace Ew
open PySem PySem.Spec PyProof.Rows L2
def spBkDem (K : PySem.W.Frag) (C : Addr) : Sp := fun vs H Q _ => ∃ (f x : Addr) (ds : List Int) (us : List V) (rs : List (Int × List Int)), vs = [.ref x] ∧ IsBook K C f H x ds us rs ∧ ∀ H' p, Same H H' → H p = none → H' p = some (.lst (ds.map V.int)) → Q (.ref p) H'
def spBkRd (K : PySem.W.Frag) (C : Addr) : Sp := fun vs H Q _ => ∃ (f x : Addr) (ds : List Int) (us : List V) (rs : List (Int × List Int)), vs = [.ref x] ∧ IsBook K C f H x ds us rs ∧ ∀ H' p, Same H H' → H p = none → H' p = some (.lst us) → Q (.ref p) H'
/-- no value of a built-in type is a book -/
def NoBook (K : PySem.W.Frag) (C : Addr) : Prop := ∀ T ∈ ["NoneType", "bool", "int", "str", "list", "tuple", "dict"], PySem.W.kitOne K (.type T) (.ref C) = some false ∧ PySem.W.notFirst K C (.type T) = true
def spBkEq (K : PySem.W.Frag) (C : Addr) : Sp := fun vs H Q _ => ∃ (f x : Addr) (y : V) (ds : List Int) (us : List V) (rs : List (Int × List Int)), vs = [.ref x, y] ∧ IsBook K C f H x ds us rs ∧
  ((∃ g z ds' us' rs', y = .ref z ∧ IsBook K C g H z ds' us' rs' ∧ Q (.bl (decide (ds = ds') && decide (rs = rs'))) H) ∨ (∃ T, Bt K H y T ∧ T ∈ ["NoneType", "bool", "int", "str", "list", "tuple", "dict"] ∧ Q (.bl false) H))
section
variable {P : Program} {w : World} {K : PySem.W.Frag} {mg : Str → Option Value} {base : Heap} {C : Addr}
theorem scBkDem : FnScope ["self"] ["self"] (defScope sBkDem) := ⟨rfl, rfl, rfl, by decide +kernel, rfl, by decide +kernel, by decide +kernel⟩
theorem ok_bkDem {f : Addr} {fd : FuncData} (F : Fun K "demands" "Book.demands" sBkDem f fd) (B : Bi mg) (T : BookTxt K mg C) : FnOk P w K mg base CX0 1 f fd ["self"] (spBkDem K C) := by
  refine F.ok scBkDem (fun vs H Q E h => ?_) (fun cdv A outer s H vs Q E hr h => ?_)
  · obtain ⟨f, x, ds, us, rs, rfl, _⟩ := h
    rfl
  · obtain ⟨f, x, ds, us, rs, rfl, ⟨dx, A, R, h1, h2, h3, h4, h5, h6⟩, q⟩ := h
    refine ⟨_, pss_one (ps_ret (pe_callTy call_list_of (by rfl) B.list (by decide +kernel) (pa_cons (pe_fld (pv 0) rfl) pa_nil))), ?_⟩
    refine ⟨_, rfl, x, C, dx, _, _, rfl, h1, T.cl, T.nD, bf_dem _ _, A, _, rfl, .inl (.inl (.inl h2)), fun p np => ?_⟩
    exact q _ p (sameU np) np upd_same
theorem scBkRd : FnScope ["self"] ["self"] (defScope sBkRd) := ⟨rfl, rfl, rfl, by decide +kernel, rfl, by decide +kernel, by decide +kernel⟩
theorem ok_bkRd {f : Addr} {fd : FuncData} (F : Fun K "readers" "Book.readers" sBkRd f fd) (B : Bi mg) (T : BookTxt K mg C) : FnOk P w K mg base CX0 1 f fd ["self"] (spBkRd K C) := by
  refine F.ok scBkRd (fun vs H Q E h => ?_) (fun cdv A outer s H vs Q E hr h => ?_)
  · obtain ⟨f, x, ds, us, rs, rfl, _⟩ := h
    rfl
  · obtain ⟨f, x, ds, us, rs, rfl, ⟨dx, A, R, h1, h2, h3, h4, h5, h6⟩, q⟩ := h
    refine ⟨_, pss_one (ps_ret (pe_callTy call_list_of (by rfl) B.list (by decide +kernel) (pa_cons (pe_fld (pv 0) rfl) pa_nil))), ?_⟩
    refine ⟨_, rfl, x, C, dx, _, _, rfl, h1, T.cl, T.nR, bf_rd _ _, R, _, rfl, .inl (.inl (.inl h3)), fun p np => ?_⟩
    exact q _ p (sameU np) np upd_same
theorem scBkEq : FnScope ["self", "other"] ["self", "other"] (defScope sBkEq) := ⟨rfl, rfl, rfl, by decide +kernel, rfl, by decide +kernel, by decide +kernel⟩
theorem ok_bkEq {f : Addr} {fd : FuncData} (F : Fun K "__eq__" "Book.__eq__" sBkEq f fd) (B : Bi mg) (T : BookTxt K mg C) (N : NoBook K C) : FnOk P w K mg base CX0 1 f fd ["self", "other"] (spBkEq K C) := by
  refine F.ok scBkEq (fun vs H Q E h => ?_) (fun cdv A outer s H vs Q E hr h => ?_)
  · obtain ⟨f, x, y, ds, us, rs, rfl, _⟩ := h
    rfl
  · obtain ⟨f, x, y, ds, us, rs, rfl, ⟨dx, A, R, h1, h2, h3, h4, h5, h6⟩, h⟩ := h
    refine ⟨_, pss_one (ps_ret (pe_and (pe_callB call_isi (by rfl) B.isinstance (by decide +kernel) (pa_cons (pv 1) (pa_cons (pe_glob (v := .ref C) (by rfl) T.mgC rfl) pa_nil)))
      (pe_and (pe_cmpR (op_eqD hr.units) (pe_fld (pv 0) rfl) (pe_fld (pv 1) rfl) (nomark _)) (pe_one (pe_cmpR (op_eqD hr.units) (pe_fld (pv 0) rfl) (pe_fld (pv 1) rfl) (nomark _)))))), ?_⟩
    rcases h with ⟨g, z, ds', us', rs', rfl, ⟨dx', A', R', k1, k2, k3, k4, k5, k6⟩, q⟩ | ⟨Ty, hT, hm, q⟩
    · refine ⟨_, rfl, _, .ref C, _, _, _, rfl, .own C, .base (.ins k1 T.ic.cl T.ic.ha T.ic.hn T.ic.htk T.ic.hm), T.ic.me, true, rfl, iteT ?_⟩
      refine ⟨_, rfl, x, C, dx, _, _, rfl, h1, T.cl, T.nD, bf_dem _ _, _, rfl, z, C, dx', _, _, rfl, k1, T.cl, T.nD, bf_dem _ _, _, _, dp_dI (.inl (.inl h2)), dp_dI (.inl (.inl k2)), shp_dI _, shp_dI _, _, rfl, ?_⟩
      rw [eqv_dI]
      by_cases e : ds = ds'
      · rw [decide_eq_true e]
        refine iteT ?_
        refine ⟨_, rfl, x, C, dx, _, _, rfl, h1, T.cl, T.nR, bf_rd _ _, _, rfl, z, C, dx', _, _, rfl, k1, T.cl, T.nR, bf_rd _ _, _, _, dp_dRs (.inl (.inl h3)) h6, dp_dRs (.inl (.inl k3)) k6, shp_dRs _, shp_dRs _, ?_⟩
        rw [eqv_dRs]
        rw [decide_eq_true e, Bool.true_and] at q
        exact q
      · rw [decide_eq_false e]
        refine iteF ?_
        rw [decide_eq_false e, Bool.false_and] at q
        exact q
    · exact ⟨_, rfl, y, .ref C, _, _, _, rfl, .own C, hT, (N Ty hm).1, false, rfl, iteF q⟩
end
end Ew
namespace Ew
open PySem PySem.Spec PyProof.Rows L2
abbrev sLaw : Stmt := (top 28)
theorem sameX {H H1 H2 : Hp} {f : Addr} (s : Same H H1) (n : H f = none) (e : Ext1 f H1 H2) : Same H H2 := fun b o h => e.1 b o (ne_of_none h n) (s b o h)
def spLaw (K : PySem.W.Frag) : Sp := fun vs H Q _ => ∃ (a : Addr) (ns : List Int), vs = [.ref a] ∧ SqL K H a (ns.map V.int) ∧ ns.length ≤ 63 ∧ ∀ H', Q (.bl true) H'
section
variable {P : Program} {w : World} {K : PySem.W.Frag} {mg : Str → Option Value} {base : Heap} {C : Addr}
/-- a new book, made of such lists -/
theorem init_of {Hb : Hp} {f x dx A1 R1 : Addr} {ds : List Int} {us : List V} {rs : List (Int × List Int)} {Q : VK} {E : XK} (hf : FeedAt Hb f) (nx : Hb x = none) (ndx : Hb dx = none) (nex : dx ≠ x) (hA : SqL K Hb A1 (ds.map V.int)) (hR : SqL K Hb R1 us)
    (hP : Paired (RdT K Hb) us rs) (ok : DsOk ds rs) (k : ∀ H4, Same Hb H4 → IsBook K C f H4 x ds us rs → Q .non H4) : spBkInit K C [.ref x, .ref A1, .ref R1] (upd (upd Hb dx (.own x)) x (.ins C dx [])) Q E := by
  have s0 : Same Hb (upd (upd Hb dx (.own x)) x (.ins C dx [])) := fun b o e => by
    rw [upd_ne (ne_of_none e nx), upd_ne (ne_of_none e ndx)]
    exact e
  refine ⟨x, dx, A1, R1, ds, us, rs, rfl, upd_same, s0.seq hA, s0.seq hR, L2.Paired.mapP hP fun _ _ z => z.same s0, ok, fun H4 A2 R2 keep nA nR hx hA2 hR2 => ?_⟩
  have s4 : Same Hb H4 := fun b o e => keep b o (ne_of_none e nx) (s0 b o e)
  have hf0 : FeedAt (upd (upd Hb dx (.own x)) x (.ins C dx [])) f := let ⟨d, t, e⟩ := hf; ⟨d, t, s0 _ _ e⟩
  exact k H4 s4 ⟨dx, A2, R2, hx, hA2, hR2, hf0.ne nA, hf0.ne nR, L2.Paired.mapP hP fun _ _ z => z.same s4⟩
end
end Ew
namespace Ew
open PySem PySem.Spec PyProof.Rows L2
/-! ### x != y, x an instance of a class that has an __eq__ and no __ne__; len(x) by an own __len__ -/
theorem on_bind (self : Value) : bindSpecial (.builtin "object.__ne__") self = pure (.builtin "object.__ne__", [self]) :=
  (Slot.of (T := "object") (name := "__ne__") (owner := "object") (n := "__ne__") (by rw [typeLookup_type, builtinLookup_eq_fast]; kernel_rfl) (by decide +kernel) (by decide +kernel) (by decide +kernel)
    (.inl (by decide +kernel)) (by rw [isSubtype_type]; kernel_rfl)).bind self
/-- what the written part says of a class over object -/
def OverObject (K : PySem.W.Frag) (C : Addr) : Prop := ∃ nm q N bs bm sn sub ab col dd k0 k1 k2 k3 k5 hd nid, K.lookup C = some (excClassObj nm q C N bs bm hd sn sub ab col dd k0 k1 k2 k3 k5 nid) ∧ bm.contains (.type "object") = true
section
variable {prog : Program} {w : World} {A : Around} {E : Value → Shared → Prop} {s : Shared} {K : PySem.W.Frag} {x C L f : Addr} {h₀ : Heap} {m : Str → Option Value} {ox : Obj} {od : Option Obj} {b tb : Value}
open PySem.W PySem.Calls Builtin in
theorem objNe_K (hu : A.units < cLine) (X : K.In s.heap) (I : InstAt s.heap x ox C od) (hs : findIn K (.ref C) "__eq__" = some (some (.ref f))) (hf : isFn K (.ref f) = true) {Q : PySem.Fin → Shared → Prop}
    (hcall : wpAny (model prog w) A (call (.ref f) [.ref x, b]) (fun v s' => ∃ c, v = .bool c ∧ Q (.done (.ret (.bool (!c)))) s') E s) :
    wpAny (model prog w) A (Builtin.«object.__ne__» ⟨[.ref x, b], []⟩) Q E s := by
  unfold Builtin.«object.__ne__»
  repeat (first
    | with_reducible refine wpAny_cRoomFor hu ?_
    | (refine wpAny_bind (m := callSpecialIfBound? (.ref x) (Str.ofString "__eq__") [b])
        (ifBound_K X I hs hf (wpAny_mono hcall (fun r s' hr => by
          obtain ⟨c, rfl, hq⟩ := hr
          repeat (first | exact hq | exact wpAny_pure hq | exact wpAny_truthy_bool hq | (refine wpAny_bind (m := truthy (.bool _)) (wpAny_truthy_bool ?_)) | wp_step)) fun _ _ e => e)))
    | wp_step)
open PySem.W PySem.Calls Builtin in
theorem ifBound_B {M : Model} {name : Str} {id : String} {args : List Value} {Q : Option Value → Shared → Prop} (X : K.In s.heap) (I : InstAt s.heap x ox C od) (hs : findIn K (.ref C) name = some (some (.builtin id))) (hbind : ∀ self, bindSpecial (.builtin id) self = pure (.builtin id, [self]))
    (h : wpAny M A (call (.builtin id) (.ref x :: args)) (fun v => Q (some v)) E s) : wpAny M A (callSpecialIfBound? (.ref x) name args) Q E s := by
  simp only [callSpecialIfBound?, bindSpecialIfBound?, hbind]
  refine wpAny_holding (wpAny_bind (wpAny_bind (wpAny_bind (I.type.here ((looks_findIn X hs).here ?_)))))
  refine wpAny_bind (wpAny_askSetting (wpAny_ite ?_))
  have fin : wpAny M A (call (.builtin id) ([.ref x] ++ args) >>= fun v => pure (some v)) Q E s := wpAny_bind (wpAny_mono h (fun v s' h' => wpAny_pure h') fun _ _ h' => h')
  split
  · simp only [hbind]
    exact wpAny_bind (wpAny_pure (wpAny_pure (by exact fin)))
  · simp only [hbind]
    exact wpAny_tryCatch (wpAny_bind (wpAny_pure (wpAny_pure (by exact fin))))
open PySem.W PySem.Calls Builtin in
theorem ne_K' {Q : Value → Shared → Prop} (hu : A.units + 1 < cLine) (F : Fr h₀ L s.heap m) (X₀ : K.In h₀) (I : InstAt s.heap x ox C od) (hox : s.heap.get? x = some ox) (hoc : ox.cls = .ref C) (ho : OverObject K C) (hb : Looks (model prog w) s.heap (typeOf b) tb) (hn : notFirst K C tb = true)
    (hne : findIn K (.ref C) "__ne__" = some (some (.builtin "object.__ne__"))) (hs : findIn K (.ref C) "__eq__" = some (some (.ref f))) (hf : isFn K (.ref f) = true)
    (h : wpAny (model prog w) A.in1 (call (.ref f) [.ref x, b]) (fun v s' => ∃ c, v = .bool c ∧ Q (.bool (!c)) s') E s) : wpAny (model prog w) A (richCompare .NotEq (.ref x) b) Q E s := by
  have X := X₀.keeps F.keep
  obtain ⟨nm, q, N, bs, bm, sn, sub, ab, col, dd, k0, k1, k2, k3, k5, hd, nid, hC, hbm⟩ := ho
  have one : wpAny (model prog w) A (tryCompare (.ref x) "__ne__" b) (fun r s' => ∃ v, r = some v ∧ Q v s') E s := by
    unfold tryCompare
    refine wpAny_bind (ifBound_B X I hne on_bind ?_)
    obtain ⟨hp, g, d, t, os⟩ := s
    refine wpAny_call (codeAny_call_builtin (by decide +kernel) PySem.F.cmpEntry_ne (wpAny_check_slot_inst PySem.F.cmpKind_ne PySem.F.cmpSplit_ne (PySem.F.cmpArgs_ne _ _) hbm hox hoc (X _ _ hC)
        (objNe_K (A := A.in1) hu X I hs hf (wpAny_mono h (fun v s' hv => ?_) fun _ _ e => e))))
    obtain ⟨c, rfl, hq⟩ := hv
    first | exact ⟨c, rfl, wpAny_pure ⟨_, rfl, hq⟩⟩ | exact ⟨c, rfl, wpAny_pure (wpAny_pure ⟨_, rfl, hq⟩)⟩
  unfold richCompare
  simp only [oneThing_ref]
  refine wpAny_holding (wpAny_bind (wpAny_cRoomFor (Nat.lt_of_succ_lt hu) ?_))
  refine wpAny_bind (I.type.here (wpAny_bind (hb.here ?_)))
  split
  · rename_i q
    have e : subIn K tb (.ref C) = some false := by
      rcases Bool.or_eq_true_iff.mp hn with e | e
      · rw [beq_iff_eq.mp e] at q; simp at q
      · exact beq_iff_eq.mp e
    refine wpAny_bind ((looks_subIn X e).here ?_)
    simp only [Bool.false_eq_true, if_false]
    refine wpAny_bind (wpAny_mono one (fun r s' z => ?_) fun _ _ e => e)
    obtain ⟨v, rfl, hq⟩ := z
    exact wpAny_pure hq
  · refine wpAny_bind (wpAny_pure ?_)
    simp only [Bool.false_eq_true, if_false]
    refine wpAny_bind (wpAny_mono one (fun r s' z => ?_) fun _ _ e => e)
    obtain ⟨v, rfl, hq⟩ := z
    exact wpAny_pure hq
end
section
variable {X : Cx} {n : Nat} {C f : Addr} {fd : FuncData} {ps : List Str} {sp : Sp}
/-- the callee runs below a builtin -/
theorem run_in1 {pins : List (Addr × Obj)} {σ : L2.St} {H : Hp} {s : Shared} {Q : VK} {us : List Value} {vs : List V} (F : FnOk X.prog X.w X.K X.mg X.base CX0 n f fd ps sp) (hr : Room (n + 1) X.A) (hb : Binds X.K fd ps [])
    (I : Inv X pins σ H s) (r : Vals vs us) (h : sp vs H Q E0) : wpAny (model X.prog X.w) X.A.in1 (call (.ref f) us) (EP X pins σ Q) X.xe s := by
  have hl : us.length = ps.length := by rw [← r.length]; exact F.len _ _ _ _ h
  refine wpAny_call (codeAny_mono (F.run X.A.in1 X.stack s H ⟨us, []⟩ us vs Q E0 hr.in1 I.env0.in1 (by
    have := hb s us I.kIn (by simpa using hl)
    simpa using this) r h) fun r s' hq => ?_)
  cases r with
  | error e => exact False.elim hq
  | ok fl =>
    cases fl with
    | ret u => exact I.after hq
    | next => exact False.elim hq
    | brk => exact False.elim hq
    | cont => exact False.elim hq
theorem op_neOwn (F : FnOk X.prog X.w X.K X.mg X.base CX0 n f fd ps sp) (hr : Room (n + 1) X.A) (hs : PySem.W.findIn X.K (.ref C) "__eq__" = some (some (.ref f))) (hf : PySem.W.isFn X.K (.ref f) = true) (hb : Binds X.K fd ps [])
    (ho : OverObject X.K C) (hne : PySem.W.findIn X.K (.ref C) "__ne__" = some (some (.builtin "object.__ne__"))) : OpR X (compareOp .NotEq) (rOwnEq X.K C sp true) := by
  intro pins s σ H x y v u Q I rx ry hq
  obtain ⟨a, dx, fs, t, rfl, ha, ty, hn, hsp⟩ := hq
  cases rx
  obtain ⟨mA, J, _⟩ := ins_get I.hok ha
  obtain ⟨od, J, _⟩ := J.look
  obtain ⟨m, hF⟩ := I.fr
  obtain ⟨_, _, _, hget, _⟩ := (show ObjOk X.prog X.w H s.heap a (.ins C dx fs) from I.hok a _ ha)
  have hu := hr.units
  show wpAny (model X.prog X.w) X.A (richCompare .NotEq (.ref a) u) (EP X pins σ Q) X.xe s
  refine ne_K' (tb := t) (by omega) hF I.ok.mod.kin J hget rfl ho (looksT I ry ty) hn hne hs hf ?_
  refine wpAny_mono (run_in1 (vs := [V.ref a, y]) (us := [Value.ref a, u]) F hr hb I (.cons rfl (.cons ry .nil)) hsp) (fun r s' hq => ?_) fun _ _ h => h
  obtain ⟨z, H', I', rz, b, ez, q⟩ := hq
  subst ez
  cases rz
  exact ⟨b, rfl, .bl (!b), H', I', rfl, q⟩
/-- len(x), x an instance of the class at C with an own __len__ -/
theorem call_lenOwn (F : FnOk X.prog X.w X.K X.mg X.base CX0 n f fd ps sp) (hr : Room (n + 1) X.A) (hs : PySem.W.findIn X.K (.ref C) "__len__" = some (some (.ref f))) (hf : PySem.W.isFn X.K (.ref f) = true) (hb : Binds X.K fd ps []) :
    CallR X (.builtin "len") (fun xs H Q => ∃ a dx fs, xs = [.ref a] ∧ H a = some (.ins C dx fs) ∧ sp [.ref a] H (fun v H' => ∃ k : Int, v = .int k ∧ (0 ≤ k ∧ k < 2 ^ 63) ∧ Q (.int k) H') E0) := by
  intro pins s σ H xs us Q I r hq
  obtain ⟨a, dx, fs, rfl, ha, hsp⟩ := hq
  cases r with
  | cons r1 r2 =>
    cases r2
    cases r1
    obtain ⟨mA, J, _⟩ := ins_get I.hok ha
    obtain ⟨od, J, _⟩ := J.look
    obtain ⟨m, hF⟩ := I.fr
    refine PySem.W.len_K hF I.ok.mod.kin J hs hf ?_
    refine wpAny_mono (run_in1 (vs := [V.ref a]) (us := [Value.ref a]) F hr hb I (.cons rfl .nil) hsp) (fun r s' hq => ?_) fun _ _ h => h
    obtain ⟨z, H', I', rz, k, ez, hk, q⟩ := hq
    subst ez
    obtain ⟨t, rfl⟩ := rz
    exact ⟨hk, .int k, H', I'.tok _, ⟨_, rfl⟩, q⟩
end
end Ew
namespace Ew
open PySem PySem.Spec PyProof.Rows L2
section
variable {X : Cx}
theorem cut_all {xs : List V} {lo hi : Option Int} (h : HT.sIx xs.length 0 lo = 0 ∧ HT.sIx xs.length xs.length hi = xs.length) : cutV xs lo hi = xs := by
  unfold cutV
  rw [h.1, h.2, List.drop_zero, Nat.sub_zero, List.take_length]
/-- t[lo:hi], the whole too -/
def rSl1 (K : PySem.W.Frag) : V → Option Int → Option Int → Hp → VK → Prop := fun x lo hi H Q => ∃ a xs, x = .ref a ∧ SqT K H a xs ∧ ∀ p H', Same H H' → SqT K H' p (cutV xs lo hi) → Q (.ref p) H'
theorem sl_tup1 : SlR X (rSl1 X.K) := by
  intro pins s σ H x v vl vu lo hi sl Q I rx hs pl pu h
  obtain ⟨a, xs, rfl, hx, q⟩ := h
  exact sl_tupA pins s σ H _ v vl vu lo hi sl Q I rx hs pl pu ⟨a, xs, rfl, hx, fun hw => q a H (Same.refl H) (by rw [cut_all hw]; exact hx), fun _ p np => q p _ (sameU np) (.inl (.inl upd_same))⟩
end
theorem cut_from (xs : List V) (k : Nat) : cutV xs (some (k : Int)) none = xs.drop k := by
  unfold cutV
  rw [HT.sIx_nat, HT.sIx_none]
  rcases Nat.le_total k xs.length with h | h
  · rw [Nat.min_eq_left h, List.take_of_length_le (by rw [List.length_drop]; omega)]
  · rw [Nat.min_eq_right h, List.drop_of_length_le h, Nat.sub_self]
    simp
theorem cut_to (xs : List V) (k : Nat) : cutV xs none (some (k : Int)) = xs.take k := by
  unfold cutV
  rw [HT.sIx_nat, HT.sIx_none, List.drop_zero, Nat.sub_zero]
  rcases Nat.le_total k xs.length with h | h
  · rw [Nat.min_eq_left h]
  · rw [Nat.min_eq_right h, List.take_of_length_le h, List.take_length]
theorem Paired.drop {α β : Type} {R : α → β → Prop} : ∀ {xs : List α} {ys : List β} (n : Nat), Paired R xs ys → Paired R (xs.drop n) (ys.drop n)
  | _, _, 0, h => h
  | _, _, _ + 1, .nil => .nil
  | _, _, n + 1, .cons _ t => Paired.drop n t
theorem Paired.app {α β : Type} {R : α → β → Prop} : ∀ {xs : List α} {ys : List β} {us : List α} {ws : List β}, Paired R xs ys → Paired R us ws → Paired R (xs ++ us) (ys ++ ws)
  | _, _, _, _, .nil, h => h
  | _, _, _, _, .cons r t, h => .cons r (Paired.app t h)
theorem Paired.rev {α β : Type} {R : α → β → Prop} : ∀ {xs : List α} {ys : List β}, Paired R xs ys → Paired R xs.reverse ys.reverse
  | _, _, .nil => .nil
  | x :: xs, y :: ys, .cons r t => by
    rw [List.reverse_cons, List.reverse_cons]
    exact Paired.app (Paired.rev t) (.cons r .nil)
end Ew
namespace Ew
open PySem PySem.Spec PyProof.Rows L2
/-! ### repr of data, where no repr is under way -/
mutual
theorem dp_noDict {K : PySem.W.Frag} {H : Hp} : ∀ (d : PyData) (v : V), Dp K H v d → d.hasDict = false
  | .none, _, _ => rfl
  | .bool _, _, _ => rfl
  | .int _, _, _ => rfl
  | .str _, _, _ => rfl
  | .list ds, _, h => by
    cases h with
    | lst _ ha => exact dpAll_noDict ds _ ha
  | .tuple ds, _, h => by
    cases h with
    | tup _ ha => exact dpAll_noDict ds _ ha
  | .dict _, _, h => by cases h
theorem dpAll_noDict {K : PySem.W.Frag} {H : Hp} : ∀ (ds : List PyData) (vs : List V), DpAll K H vs ds → PyData.hasDictAll ds = false
  | [], _, _ => rfl
  | d :: ds, _, h => by
    cases h with
    | cons h1 h2 =>
      show (PyData.hasDict d || PyData.hasDictAll ds) = false
      rw [dp_noDict d _ h1, dpAll_noDict ds _ h2]
      rfl
end
def rRepr (K : PySem.W.Frag) : List V → Hp → VK → Prop := fun xs H Q => ∃ v d, xs = [v] ∧ Dp K H v d ∧ d.showable = true ∧ d.depth ≤ 60 ∧ d.shown.length ≤ sizeLine ∧ Q (.str d.shown) H
section
variable {X : Cx}
theorem call_repr (hg : X.A.guards = some []) (hu : X.A.units + 64 < cLine) : CallR X (.builtin "repr") (rRepr X.K) := by
  intro pins s σ H xs us Q I r h
  obtain ⟨v, d, rfl, hd, hs, hdep, hsz, q⟩ := h
  cases r with
  | cons r1 r2 =>
    cases r2
    rename_i u
    obtain ⟨as, rd⟩ := Dp.reads I d v u hd r1
    have nod := dp_noDict d v hd
    cases hd with
    | non => cases (show u = Value.none from r1); exact PySem.P.repr_of_none ⟨.str _, H, I.tok _, ⟨_, rfl⟩, q⟩
    | bl b => cases (show u = Value.bool b from r1); exact PySem.P.repr_of_bool ⟨.str _, H, I.tok _, ⟨_, rfl⟩, q⟩
    | int i => obtain ⟨t, e⟩ := (show ∃ t, u = Value.int i t from r1); cases e; exact PySem.P.repr_of_int (of_decide_eq_true hs) ⟨.str _, H, I.tok _, ⟨_, rfl⟩, q⟩
    | str y => obtain ⟨t, e⟩ := (show ∃ t, u = Value.str y t from r1); cases e; exact PySem.P.repr_of_str (hsz := hsz) ⟨.str _, H, I.tok _, ⟨_, rfl⟩, q⟩
    | @lst a xs ds h1 h2 =>
      cases (show u = Value.ref a from r1)
      exact repr_of_reads' rd hs (fun e => by rw [nod] at e; cases e) hg (by omega) (fun _ _ e => e) (fun h' u tk hk => ⟨.str _, H, I.kept (t' := tk) hk, ⟨_, rfl⟩, q⟩) hsz
    | @tup a xs ds h1 h2 =>
      cases (show u = Value.ref a from r1)
      exact repr_of_reads' rd hs (fun e => by rw [nod] at e; cases e) hg (by omega) (fun _ _ e => e) (fun h' u tk hk => ⟨.str _, H, I.kept (t' := tk) hk, ⟨_, rfl⟩, q⟩) hsz
end
/-! ### a def that is called where no repr is under way -/
structure FnOkG (P : Program) (w : World) (K : PySem.W.Frag) (mg : Str → Option Value) (base : Heap) (k : Nat) (f : Addr) (fd : FuncData) (ps : List Str) (sp : Sp) : Prop where
  len : ∀ vs H Q E, sp vs H Q E → vs.length = ps.length
  run : ∀ (A : Around) (outer : List Env) (s : Shared) (H : Hp) (args : Args) (us : List Value) (vs : List V) (Q : VK) (E : XK), A.guards = some [] → Room k A → Env0 P w K mg base A outer s H → BindsTo s fd args (ps.zip us) → Vals vs us → sp vs H Q E →
    codeAny (model P w) A (.call (.ref f) args) (CR CX0 outer P w H s Q E) s
section
variable {P : Program} {w : World} {K : PySem.W.Frag} {mg : Str → Option Value} {base : Heap}
theorem okG {x qual : Str} {st : Stmt} {f : Addr} {fd : FuncData} {N ps : List Str} {k : Nat} {sp : Sp} (F : Fun K x qual st f fd) (S : FnScope N ps (defScope st)) (len : ∀ vs H Q E, sp vs H Q E → vs.length = ps.length)
    (hbody : ∀ (cdv : Value) (A : Around) (outer : List Env) (s : Shared) (H : Hp) (vs : List V) (Q : VK) (E : XK), A.guards = some [] → Room k (A.deeper (envOfC qual (defScope st) s.heap.objs.size f cdv)) → sp vs H Q E →
      ∃ t, PSs (cxOf CX0 P w K mg base N qual (defScope st) f cdv A outer s H E).nox (defBody st) t ∧ t { nx := fun _ H' => Q .non H', rt := Q } (L2.start N vs) H) : FnOkG P w K mg base (k + 1) f fd ps sp := by
  obtain ⟨oc, od, kV, doc, pm, an, cdv, ct, osl, rfl, lk, hcd⟩ := F.ex
  refine ⟨len, fun A outer s H args us vs Q E hgd hr e0 hb r hsp => ?_⟩
  have sub : ∀ b o, base.get? b = some o → s.heap.get? b = some o := fun b o e => (e0.bs b o e).1
  have inK : K.In s.heap := e0.mod.kin.keeps sub
  have lim : s.heap.NoLimit := e0.mod.nolimit.keeps sub
  have hkind : ∀ y ∈ ps.zip us, (defScope st).names.lookup y.1 = some .local ∨ ((defScope st).names.lookup y.1 = some .cell ∧ ((cellsFrom (s.heap.objs.size + 1) (defScope st).names []).lookup y.1).isSome = true) := by
    rintro ⟨n, v⟩ hy
    exact (S.par n (List.of_mem_zip hy).1).elim .inl fun z => .inr ⟨z, PySem.W.cellsFrom_some _ _ _ (.inl z)⟩
  refine codeAny_call_function hr.depth (inK _ _ lk) rfl S.co S.gen rfl (PySem.W.codeRec_of inK hcd) (hb _ _ _ _ (wpAny_newFunctionEnv_cells S.kind hkind fun env he s1 hs1 => ?_))
  subst he
  obtain ⟨t, ht, hq⟩ := hbody cdv A outer s H vs Q E hgd (hr.deeper _) hsp
  have I := inv_start (CX := CX0) (P := P) (w := w) (f := f) (cd := cdv) (E := E) (qual := qual) S hr.hd e0 (len _ _ _ _ hsp) r hs1
  refine ⟨lim.keeps hs1.toInCall.keep, codeAny_func (wpAny_mono (ht.nox.run [] s1 (L2.start N vs) H _ I hq) (fun fl s' hs => ?_) fun e s' hs => hs)⟩
  cases fl with
  | ret u => obtain ⟨v, σ', H', J, rv, q⟩ := hs; exact ⟨v, H', J.os, J.bare, J.base, J.hok, rv, q⟩
  | next => obtain ⟨σ', H', J, q⟩ := hs; exact ⟨.non, H', J.os, J.bare, J.base, J.hok, rfl, q⟩
  | brk => obtain ⟨_, _, _, q⟩ := hs; exact q.elim
  | cont => obtain ⟨_, _, _, q⟩ := hs; exact q.elim
end
section
variable {X : Cx} {k : Nat} {f : Addr} {fd : FuncData} {ps : List Str} {sp : Sp} {x : Str} {p pos : Pos} {e : Expr} {es : List Expr} {t : TA}
/-- f(e, ..), f such a def -/
theorem pe_callG (F : FnOkG X.prog X.w X.K X.mg X.base k f fd ps sp) (hgd : X.A.guards = some []) (hr : Room k X.A) (hg : Gl X x) (hm : X.mg x = some (.ref f)) (hk : PySem.W.keepIn X.K (.ref f) = true) (hb : Binds X.K fd ps [])
    (ha : PA X (e :: es) t) (hdb : (x == ("__debug__" : Str)) = false := by decide) (he : starEach (e :: es) X.env = (false, eval e X.env) :: starEach es X.env := by rfl) (hpl : (backTo pos (starEach es X.env)).any (·.1) = false := by rfl) :
    PE X (.Call (.Name x p) (e :: es) [] pos) (tCall sp [] E0 t) := by
  refine ⟨fun pins s σ H Q I h => wpAny_Call_Name_kw (ld_glob I hg hm ?_ hdb)⟩
  refine PySem.W.callWith_K (h₀ := X.base) I.ok.mod.kin hk (thn (ha.run pos pins s σ H _ I h) fun us s1 ⟨vs, H1, I1, r, q⟩ => ⟨I1.kIn, ?_⟩) he hpl
  have q2 : sp (vs ++ []) H1 Q E0 := q
  rw [List.append_nil] at q2
  have hl : us.length = ps.length := by rw [← r.length]; exact F.len _ _ _ _ q2
  refine wpAny_call (codeAny_mono (F.run X.A X.stack s1 H1 ⟨us, []⟩ us vs Q E0 hgd hr I1.env0 (by simpa using hb s1 us I1.kIn (by simpa using hl)) r q2) fun r s' hq => ?_)
  cases r with
  | error _ => exact False.elim hq
  | ok fl =>
    cases fl with
    | ret u => exact I1.after hq
    | next => exact False.elim hq
    | brk => exact False.elim hq
    | cont => exact False.elim hq
end
/-- what is tracked ahead of the law's call: the script alone -/
def only (a : Addr) (o : Obj) (xs : List V) : Hp := fun b => if b = a then some (.frz o (.lst xs)) else none
theorem only_ne {a b : Addr} {o : Obj} {xs : List V} (h : b ≠ a) : only a o xs b = none := if_neg h
theorem only_at {a : Addr} {o : Obj} {xs : List V} : only a o xs a = some (.frz o (.lst xs)) := if_pos rfl
theorem only_is {a b : Addr} {o : Obj} {xs : List V} {u : HO} (h : only a o xs b = some u) : b = a ∧ u = .frz o (.lst xs) := by
  by_cases e : b = a
  · subst e
    rw [only_at] at h
    exact ⟨rfl, (Option.some.inj h).symm⟩
  · rw [only_ne e] at h
    cases h
section
variable {P : Program} {w : World} {K : PySem.W.Frag} {mg mb : Str → Option Value} {k : Nat} {fa a : Addr} {fd : FuncData} {x : Str} {sp : Sp} {s₁ : Shared} {vs : List Value} {ns : List Int}
/-- the law's call from an abstract heap that tracks at most the script -/
theorem call_from {H : Hp} (KX : K.In s₁.heap) (hns : s₁.heap.Ns mainGlobals mg) (hb : s₁.heap.Ns builtinsNs mb) (hbb : ∀ x : Str, x ≠ "__name__" → mb x = bootBuiltins x) (hlim : s₁.heap.NoLimit) (hg : s₁.gens = #[])
    (hr : Room k callerA) (F : ∀ base : Heap, K.In base → base.Ns mainGlobals mg → FnOkG P w K mg base k fa fd [x] sp) (hbind : ∀ (s : Shared) (u : Value), BindsTo s fd ⟨[u], []⟩ [(x, u)])
    (hsp : sp [.ref a] H (fun v _ => v = .bl true) fun _ _ _ => False) (hok : HOk P w H s₁.heap) (dicts : ∀ b o es ep, s₁.heap.get? b = some o → o.data = .dict es ep → H b = none) (kept : ∀ b o, K.lookup b = some o → H b = none)
    (frz : ∀ b u, H b = some u → ∃ o xs, u = .frz o (.lst xs)) :
    codeAny (model P w) callerA (.call (.ref fa) ⟨[.ref a], []⟩) (fun r s' => r = .ok (.ret (.bool true)) ∧ OldK s₁.heap s'.heap ∧ s'.os = s₁.os ∧ AllBare s'.gens) s₁ := by
  have nsB : ∀ {b : Addr} {m : Str → Option Value}, s₁.heap.Ns b m → (hidT s₁.heap H).Ns b m := by
    rintro b m ⟨o, es, ep, e, d, r⟩
    exact ⟨o, es, ep, hidT_get e (dicts _ _ _ _ e d), d, r⟩
  have inB : K.In (hidT s₁.heap H) := fun b o e => hidT_get (KX b o e) (kept b o e)
  have hM : Mod K mg (hidT s₁.heap H) := ⟨inB, nsB hns, ⟨mb, nsB hb, hbb⟩, let ⟨mc, h1, h2⟩ := hlim; ⟨mc, nsB h1, h2⟩⟩
  have noFr : ∀ b ∈ frs ([] : List Env), H b = none := fun b z => absurd (show b ∈ ([] : List Addr) from z) (by simp)
  have e0 : Env0 P w K mg (hidT s₁.heap H) callerA [] s₁ H := ⟨rfl, hM, fun b o e => of_hidT e, Nat.le_of_eq (hidT_size _ _), trivial, noFr, hok, .of_eq hg⟩
  refine codeAny_mono ((F _ inB (nsB hns)).run callerA [] s₁ H ⟨[.ref a], []⟩ [.ref a] [.ref a] _ _ rfl hr e0 (hbind s₁ (.ref a)) (.cons rfl .nil) hsp) fun r s' h => ?_
  cases r with
  | error e => exact False.elim h
  | ok fl =>
    cases fl with
    | next => exact False.elim h
    | brk => exact False.elim h
    | cont => exact False.elim h
    | ret u =>
      obtain ⟨v, H', os, bare, un, hok', r', q⟩ := h
      obtain rfl : v = .bl true := q
      obtain rfl : u = Value.bool true := r'
      refine ⟨rfl, OldK.of_keep fun b o e => ?_, os, bare⟩
      cases hb2 : H b with
      | none => exact un.keep b o e hb2 (fun z => absurd (show b ∈ ([] : List Addr) from z) (by simp)) (by simp)
      | some u =>
        obtain ⟨ob, xs, rfl⟩ := frz b u hb2
        obtain ⟨e1, _⟩ := hok b _ hb2
        obtain ⟨e2, _⟩ := hok' b _ (un.frzs b ob _ hb2)
        exact e2.trans (e1.symm.trans e)
end
/-- the end of a law whose def asks that no repr is under way -/
theorem walk_ofG {l : PySem.W.OpenLaw} {n k : Nat} {q : Program} {loose : List Str} {XP : (Str → Option Value) → Heap → Prop} {YP : World → Heap → Prop} {d : DefRec} {K : Params → PySem.W.Frag} {sp : World → Sp} {x : Str}
    (hn : l.most = some n) (hn2 : n ≤ sizeLine) (hdf : d.params.defaults = []) (hr : Room k callerA)
    (hY : ∀ (w : World) (h : Heap), YP w h → (K w.params).In h)
    (F : ∀ (w : World) (mg : Str → Option Value) (fa : Addr) (h : Heap), (K w.params).In h → h.Ns mainGlobals mg → mg d.name = some (.ref fa) →
      ∃ fd : FuncData, (∀ (s : Shared) (u : Value), BindsTo s fd ⟨[u], []⟩ [(x, u)]) ∧
        ∀ base : Heap, (K w.params).In base → base.Ns mainGlobals mg → FnOkG l.prog w (K w.params) mg base k fa fd [x] (sp w))
    (hsp : ∀ (w : World) (H : Hp) (a : Addr) (ns : List Int), ns.length ≤ n → SqL (K w.params) H a (ns.map V.int) → sp w [.ref a] H (fun v _ => v = .bl true) fun _ _ _ => False) :
    PySem.W.WalkO q loose XP YP l.row.toRowW d [] (fun f vs => PySem.call f vs) := by
  refine Att.attach_call hn hdf fun w s₀ s₁ mg mb fa o pm cd doc a vs ns G Y ho hd hcd hmg hobj hints hlen hg => ?_
  have KX := hY w _ Y
  obtain ⟨fd, hb, hF⟩ := F w mg fa _ KX G.T.g hmg
  have rv := vals_ints hints
  have ls : (ns.map V.int).length ≤ sizeLine := by rw [List.length_map]; exact Nat.le_trans hlen hn2
  cases hk : (K w.params).lookup a with
  | some o =>
    -- the script is one of the module's own objects
    have e := KX a o hk
    rw [hobj] at e
    cases e
    have none_ : ∀ b, (fun _ => none : Hp) b = none := fun _ => rfl
    refine call_from (H := fun _ => none) KX G.T.g G.T.b G.T.builtins G.T.nolimit hg hr hF hb (hsp w _ a ns hlen (.inr ⟨_, vs.toArray, _, hk, rfl, rfl, rfl, ?_, by simpa using rv⟩)) (fun b u z => by cases z) (fun _ _ _ _ _ _ => rfl) (fun _ _ _ => rfl) (fun b u z => by cases z)
    rw [List.size_toArray, ← rv.length]
    exact ls
  | none =>
    refine call_from (H := only a { cls := .type "list", data := .seq vs.toArray } (ns.map V.int)) KX G.T.g G.T.b G.T.builtins G.T.nolimit hg hr hF hb (hsp w _ a ns hlen (.inl (.inr ⟨_, only_at⟩))) (fun b u z => ?_) (fun b ob es ep e d => ?_) (fun b ob e => ?_) (fun b u z => ⟨_, _, (only_is z).2⟩)
    · obtain ⟨rfl, rfl⟩ := only_is z
      exact ⟨hobj, ls, vs, _, rv, hobj⟩
    · refine only_ne fun z => ?_
      rw [z, hobj] at e
      cases e
      cases (show Data.seq vs.toArray _ = Data.dict es ep from d)
    · refine only_ne fun z => ?_
      rw [z, hk] at e
      cases e
end Ew
namespace Ew
open PySem PySem.Spec PyProof.Rows L2
/-! ### sorted(t), t a tuple of ints -/
section
variable {prog : Program} {w : World} {A : Around} {E : Value → Shared → Prop} {s : Shared}
/-- the heap behind the collecting of vs -/
abbrev heapC (h : Heap) (vs : List Value) : Heap := (h.push (seqObj "list" #[] 0)).update h.objs.size (Obj.mapSeq (· ++ vs.toArray))
theorem collect_tup {l : Addr} {vs : List Value} {Q : List Value → Shared → Prop} (hl : IsTup s.heap l vs.toArray) (hsz : vs.length ≤ sizeLine) (h : Q vs { s with heap := heapC s.heap vs }) : wpAny (model prog w) A (collect (.ref l)) Q E s := by
  obtain ⟨o, ho, hc, n, hd⟩ := id hl
  have ho' : (s.heap.push (seqObj "list" #[] 0)).get? l = some o := Heap.get?_push_of_some _ ho
  have hn : (s.heap.push (seqObj "list" #[] 0)).get? s.heap.objs.size = some (seqObj "list" #[] 0) := Heap.get?_push_size _ rfl
  unfold collect
  refine wpAny_bind (wpAny_runValue (codeAny_builtin entry_proto_collect' ?_))
  show wpAny _ _ (do again (.builtin "list.__iadd__" ⟨[← newList [], .ref l], []⟩)) _ _ s
  refine wpAny_bind (wpAny_newList (wpAny_pure ⟨Code.quiet_builtin _ (by decide +kernel), codeAny_builtin entry_list_iadd' ?_⟩))
  show wpAny _ _ (Builtin.List.listExtendWith (.ref s.heap.objs.size) (.ref l) (.ref s.heap.objs.size)) _ _ { s with heap := s.heap.push (seqObj "list" #[] 0) }
  unfold Builtin.List.listExtendWith
  refine wpAny_bind (wpAny_typeOf (T := "tuple") ⟨o, ho', hc⟩ ?_)
  rw [if_pos (by rw [show (Value.type "tuple" == Value.type "tuple") = true from rfl, Bool.or_true])]
  refine wpAny_bind (listItems_at ho' hd (wpAny_bind (listItems_at (xs := #[]) (n := 0) hn rfl ?_)))
  rw [if_neg (by simp)]
  refine wpAny_bind (listUpdate_at (xs := #[]) (n := 0) hn rfl (wpAny_pure ?_) (Nat.zero_le _) (by show (#[] ++ vs.toArray).size ≤ sizeLine + 1; simp; omega))
  show wpAny (model prog w) A (do
      let o ← load s.heap.objs.size
      match o.data with
      | .seq xs _ => pure xs.toList
      | _ => unsupported "internal:collect") Q E { s with heap := heapC s.heap vs }
  refine wpAny_bind (wpAny_load (get?_update_seq hn _) ?_)
  show wpAny _ _ (pure ((#[] : Array Value) ++ vs.toArray).toList) Q E _
  have e : ((#[] : Array Value) ++ vs.toArray).toList = vs := by simp
  rw [e]
  exact wpAny_pure h
theorem sorted_tup {l : Addr} {vs : List Value} {ns : List Int} {Q : Value → Shared → Prop} (hl : IsTup s.heap l vs.toArray) (hI : IntsAre vs ns) (h64 : vs.length < 64)
    (h : ∀ (out : Array Value) (ns' : List Int), IntsAre out.toList ns' → ns'.Perm ns → ns'.Pairwise (· ≤ ·) → Q (.ref (s.heap.objs.size + 1)) { s with heap := sortedAll s.heap vs out }) :
    wpAny (model prog w) A (call (.builtin "sorted") [.ref l]) Q E s := by
  have zs : vs.length ≤ sizeLine := Nat.le_trans (Nat.le_of_lt h64) (by decide)
  have hsz : (heapC s.heap vs).objs.size = s.heap.objs.size + 1 := by rw [Heap.size_update, size_push']
  have hoL : ((heapC s.heap vs).push (seqObj "list" vs.toArray 0)).get? (s.heap.objs.size + 1) = some (seqObj "list" vs.toArray 0) := by
    rw [← hsz]
    exact Heap.get?_push_size _ rfl
  refine Calls.call_function_entry kind_sorted plain_sorted entry_sorted (args_sorted1 _) ?_
  unfold Builtin.«sorted»
  refine wpAny_bind (m := checkCount "sorted" 1 1 _) (wpAny_pure (wpAny_bind (collect_tup hl zs (wpAny_bind (wpAny_newList ?_)))))
  show wpAny _ _ _ _ _ { s with heap := (heapC s.heap vs).push (seqObj "list" vs.toArray 0) }
  rw [hsz]
  exact wpAny_bind (wpAny_holding (wpAny_call_entry slot_list_sort ⟨_, hoL, rfl⟩ entry_list_sort (list_sort_tree hoL hI h64 fun out ns' a1 a2 a3 => ⟨_, rfl, wpAny_pure ⟨_, rfl, h out ns' a1 a2 a3⟩⟩) (args_list_sort _)))
end
section
variable {X : Cx}
def rSortedTu (K : PySem.W.Frag) : List V → Hp → VK → Prop := fun vs H Q => ∃ (a : Addr) (ns : List Int), vs = [V.ref a] ∧ SqT K H a (ns.map V.int) ∧ ns.length < 64 ∧ ∀ (ns' : List Int) (p : Addr), ns'.Perm ns → ns'.Pairwise (· ≤ ·) → H p = none → Q (.ref p) (upd H p (.lst (ns'.map V.int)))
theorem cr_sortedTu : CallR X (.builtin "sorted") (rSortedTu X.K) := by
  intro pins s σ H vs us Q I r h
  obtain ⟨a, ns, rfl, hs, h64, q⟩ := h
  obtain ⟨its, rv, hl, _⟩ := I.tuple hs
  rw [Vals.ref1 r]
  have hi := rv.ints
  refine sorted_tup hl hi (by rw [hi.length]; exact h64) fun out ns' h1 h2 h3 => ?_
  obtain ⟨ep, he⟩ := PyProof.Rows.sortedAll_at s.heap its out
  have hz : (ns'.map V.int).length ≤ sizeLine := by rw [List.length_map, h2.length_eq]; exact Nat.le_trans (Nat.le_of_lt h64) (by decide)
  exact ⟨.ref _, upd H (s.heap.objs.size + 1) (.lst (ns'.map V.int)), I.laid (t' := s.toks) (fun _ _ => PyProof.Rows.sortedAll_old) (Nat.le_succ _) ⟨hz, out.toList, ep, vals_of_ints h1, he⟩, rfl, q ns' _ h2 h3 (I.hok.fresh (Nat.le_succ _))⟩
end
end Ew
namespace Ew
open PySem PySem.Spec PyProof.Rows L2
/-! ### the counts -/
def pres (n : Nat) (as : List Int) : List Int := ((List.range n).filter fun i => !decide (((i : Nat) : Int) ∈ as)).map fun i => ((i : Nat) : Int)
/-- by what is read outside of the set -/
def cnt2 (r : Int × List Int) (row works : List Int) : Int :=
  let o : Int := r.1 - ((row.filter fun x => !decide (x ∈ works)).length : Nat)
  let i : Int := ((works.filter fun x => decide (x ∈ r.2)).length : Nat)
  if i < o then i else o
/-- by what is read within, and what more can be -/
def cnt1 (r : Int × List Int) (row works : List Int) : Int :=
  let has := row.filter fun x => decide (x ∈ works)
  let o : Int := r.1 - (row.length : Nat)
  let i : Int := ((r.2.filter fun x => decide (x ∈ works) && !decide (x ∈ has)).length : Nat)
  (has.length : Nat) + (if i < o then i else o)
theorem split_len {α : Type} (p : α → Bool) : ∀ l : List α, l.length = (l.filter p).length + (l.filter fun x => !p x).length
  | [] => rfl
  | x :: l => by
    have ih := split_len p l
    cases h : p x with
    | true => simp [h]; omega
    | false => simp [h]; omega
theorem nodup_same {xs ys : List Int} (hx : xs.Nodup) (hy : ys.Nodup) (h : ∀ z, z ∈ xs ↔ z ∈ ys) : xs.length = ys.length :=
  ((List.perm_ext_iff_of_nodup hx hy).mpr h).length_eq
theorem nodup_asc {l : List Int} (h : l.Pairwise (· < ·)) : l.Nodup := h.imp fun h => by omega
theorem cnt_eq {r : Int × List Int} {row works : List Int} (ho : RowOk r row) (hm : r.2.Pairwise (· < ·)) (hw : works.Pairwise (· < ·)) : cnt1 r row works = cnt2 r row works := by
  have nr := nodup_asc ho.1
  have nm := nodup_asc hm
  have nw := nodup_asc hw
  have e1 := split_len (fun x => decide (x ∈ works)) row
  -- the works of the set that the reader may read: those that it reads, and the others
  have e2 : (works.filter fun x => decide (x ∈ r.2)).length = (r.2.filter fun x => decide (x ∈ works)).length := nodup_same (nw.filter _) (nm.filter _) (fun z => by simp only [List.mem_filter, decide_eq_true_eq]; exact ⟨fun h => ⟨h.2, h.1⟩, fun h => ⟨h.2, h.1⟩⟩)
  have e3 := split_len (fun x => decide (x ∈ row.filter fun x => decide (x ∈ works))) (r.2.filter fun x => decide (x ∈ works))
  have e4 : ((r.2.filter fun x => decide (x ∈ works)).filter fun x => decide (x ∈ row.filter fun x => decide (x ∈ works))).length = (row.filter fun x => decide (x ∈ works)).length := nodup_same ((nm.filter _).filter _) (nr.filter _) (fun z => by
    simp only [List.mem_filter, decide_eq_true_eq]
    exact ⟨fun h => h.2, fun h => ⟨⟨ho.2.1 z h.1, h.2⟩, h⟩⟩)
  have e5 : ((r.2.filter fun x => decide (x ∈ works)).filter fun x => !decide (x ∈ row.filter fun x => decide (x ∈ works))) = r.2.filter fun x => decide (x ∈ works) && !decide (x ∈ row.filter fun x => decide (x ∈ works)) := by
    rw [List.filter_filter]
    congr 1
    funext x
    exact Bool.and_comm _ _
  rw [e4, e5] at e3
  unfold cnt1 cnt2
  dsimp only
  rw [e2]
  generalize (row.filter fun x => decide (x ∈ works)).length = h at *
  generalize (row.filter fun x => !decide (x ∈ works)).length = o at *
  generalize (r.2.filter fun x => decide (x ∈ works)).length = i at *
  have e6 : (List.filter (fun x => decide (x ∈ works) && !decide (x ∈ List.filter (fun x => decide (x ∈ works)) row)) r.2).length = i - h := by omega
  rw [e6]
  have e7 : ((i - h : Nat) : Int) = (i : Int) - h := by omega
  rw [e7, e1]
  split <;> split <;> omega
/-- one work less in the set takes off none or one -/
theorem cnt_fewer {r : Int × List Int} {row : List Int} {x : Int} {works : List Int} : cnt2 r row (x :: works) - cnt2 r row works = 0 ∨ cnt2 r row (x :: works) - cnt2 r row works = 1 ∨ ¬ (row.Nodup ∧ x ∉ works) := by
  by_cases h : row.Nodup ∧ x ∉ works
  · obtain ⟨nr, nx⟩ := h
    have e1 : ((x :: works).filter fun y => decide (y ∈ r.2)).length = (works.filter fun y => decide (y ∈ r.2)).length + (if x ∈ r.2 then 1 else 0) := by
      by_cases hx : x ∈ r.2 <;> simp [hx]
    have e2 : ∀ row : List Int, row.Nodup → (row.filter fun y => !decide (y ∈ works)).length = (row.filter fun y => !decide (y ∈ x :: works)).length + (if x ∈ row then 1 else 0) := by
      intro row
      induction row with
      | nil => intro _; rfl
      | cons y row ih =>
        intro nd
        have nd' := List.nodup_cons.mp nd
        have ih := ih nd'.2
        by_cases hxy : x = y
        · subst hxy
          have hnr : ¬ x ∈ row := nd'.1
          simp only [hnr, if_false, Nat.add_zero] at ih
          simp [nx, ih]
        · have hyx : ¬ y = x := fun e => hxy e.symm
          have hm : (x ∈ y :: row) ↔ x ∈ row := by simp [hxy]
          by_cases hy : y ∈ works
          · simp [hy, hm, ih]
          · simp [hy, hyx, hm, ih]
            omega
    have e3 := e2 row nr
    unfold cnt2
    dsimp only
    rw [e1, e3]
    generalize (works.filter fun y => decide (y ∈ r.2)).length = i
    generalize (row.filter fun y => !decide (y ∈ x :: works)).length = o
    by_cases h1 : x ∈ r.2 <;> by_cases h2 : x ∈ row <;> simp only [h1, h2, if_true, if_false] <;> (split <;> split <;> omega)
  · exact .inr (.inr h)
/-- one reading more outside of the set takes off none or one -/
theorem cnt_longer {r : Int × List Int} {row row' works : List Int} {x : Int} (hp : row'.Perm (row ++ [x])) (hx : x ∉ works) : cnt2 r row works - cnt2 r row' works = 0 ∨ cnt2 r row works - cnt2 r row' works = 1 := by
  have e : (row'.filter fun y => !decide (y ∈ works)).length = (row.filter fun y => !decide (y ∈ works)).length + 1 := by
    rw [(hp.filter _).length_eq, List.filter_append, List.length_append]
    simp [hx]
  unfold cnt2
  dsimp only
  rw [e]
  split <;> split <;> omega
def cntAt (g : Int × List Int → List Int → List Int → Int) (rs : List (Int × List Int)) (ws : List (List Int)) (works : List Int) (i : Int) : Int := match rs[i.toNat]?, ws[i.toNat]? with
  | some r, some w => g r w works
  | _, _ => 0
def wanted (ds works : List Int) : Int := (works.map fun w => ds.getD w.toNat 0).sum
end Ew
namespace Ew
open PySem PySem.Spec PyProof.Rows L2
/-! ### how long a repr is, what it can show -/
def lens (ts : List Str) : Nat := (ts.map fun t => t.length + 2).sum
theorem textFrom_le : ∀ (ts : List Str) (k : Nat) (acc : Str), (textFrom k acc ts).length ≤ acc.length + lens ts
  | [], _, acc => Nat.le_refl _
  | t :: r, k, acc => by
    have ih := textFrom_le r (k + 1) (acc ++ (if k > 0 then ", " else "" : String) ++ t)
    have e : (acc ++ (if k > 0 then ", " else "" : String) ++ t).length = acc.length + (if k > 0 then 2 else 0) + t.length := by
      rw [strLen_append, strLen_append]
      split <;> rfl
    have e2 : lens (t :: r) = t.length + 2 + lens r := by
      unfold lens
      rw [List.map_cons, List.sum_cons]
    show (textFrom (k + 1) (acc ++ (if k > 0 then ", " else "" : String) ++ t) r).length ≤ _
    rw [e2]
    rw [e] at ih
    have e3 : (if k > 0 then 2 else 0) ≤ 2 := by split <;> omega
    omega
theorem listText_le (ts : List Str) : (listText ts).length ≤ 2 + lens ts := by
  unfold listText
  rw [strLen_append]
  have := textFrom_le ts 0 "["
  have e1 : (("[" : String) : Str).length = 1 := rfl
  have e2 : (("]" : String) : Str).length = 1 := rfl
  rw [e2]
  rw [e1] at this
  omega
theorem piled_lens : ∀ ts : List Str, piled ts = lens ts
  | [] => rfl
  | t :: r => by
    rw [piled_cons, piled_lens r]
    unfold lens
    rw [List.map_cons, List.sum_cons]
theorem tupleText_le (ts : List Str) : (tupleText ts).length ≤ 3 + lens ts := by
  unfold tupleText
  rw [strLen_append, strLen_append]
  have e1 : (("(" : String) : Str).length = 1 := rfl
  have e3 : (((if ts.length == 1 then ",)" else ")" : String)) : Str).length ≤ 2 := by
    split <;> decide
  have e2 : (Str.join ", " ts).length ≤ lens ts := by
    cases ts with
    | nil => exact Nat.zero_le _
    | cons t r =>
      have := join_length_add (t :: r) (by simp)
      rw [piled_lens] at this
      omega
  rw [e1]
  omega
theorem shownAll_map {α : Type} (g : α → PyData) : ∀ l : List α, PyData.shownAll (l.map g) = l.map fun x => PyData.shown (g x)
  | [] => rfl
  | x :: l => by
    show PyData.shown (g x) :: PyData.shownAll (l.map g) = _
    rw [shownAll_map g l]
    rfl
theorem lens_map {α : Type} (g : α → Str) (b : Nat) : ∀ l : List α, (∀ x ∈ l, (g x).length ≤ b) → lens (l.map g) ≤ l.length * (b + 2)
  | [], _ => Nat.zero_le _
  | x :: l, h => by
    have ih := lens_map g b l fun y hy => h y (by simp [hy])
    have hx := h x (by simp)
    have e : lens ((x :: l).map g) = (g x).length + 2 + lens (l.map g) := by
      unfold lens
      rw [List.map_cons, List.map_cons, List.sum_cons]
    rw [e, List.length_cons, Nat.succ_mul]
    omega
theorem showAll_map {α : Type} (g : α → PyData) : ∀ l : List α, (∀ x ∈ l, PyData.showable (g x) = true) → PyData.showableAll (l.map g) = true
  | [], _ => rfl
  | x :: l, h => by
    show (PyData.showable (g x) && PyData.showableAll (l.map g)) = true
    rw [h x (by simp), showAll_map g l fun y hy => h y (by simp [hy])]
    rfl
/-- a small int: 0 to 9 -/
def Dig (i : Int) : Prop := 0 ≤ i ∧ i < 10
theorem dig_cases {i : Int} (h : Dig i) : i = 0 ∨ i = 1 ∨ i = 2 ∨ i = 3 ∨ i = 4 ∨ i = 5 ∨ i = 6 ∨ i = 7 ∨ i = 8 ∨ i = 9 := by
  obtain ⟨h1, h2⟩ := h
  omega
theorem show_int {i : Int} (h : Dig i) : PyData.showable (.int i) = true ∧ (PyData.shown (.int i)).length ≤ 1 := by
  rcases dig_cases h with rfl | rfl | rfl | rfl | rfl | rfl | rfl | rfl | rfl | rfl <;> exact ⟨by decide +kernel, by decide +kernel⟩
theorem show_dT {w : List Int} (h : ∀ x ∈ w, Dig x) : PyData.showable (dT w) = true ∧ (PyData.shown (dT w)).length ≤ 3 + w.length * 3 := by
  refine ⟨showAll_map PyData.int w fun x hx => (show_int (h x hx)).1, ?_⟩
  show (tupleText (PyData.shownAll (w.map PyData.int))).length ≤ _
  rw [shownAll_map]
  exact Nat.le_trans (tupleText_le _) (Nat.add_le_add_left (lens_map _ 1 w fun x hx => (show_int (h x hx)).2) _)
theorem show_dWs {ws : List (List Int)} {b : Nat} (h : ∀ w ∈ ws, w.length ≤ b ∧ ∀ x ∈ w, Dig x) : PyData.showable (dWs ws) = true ∧ (PyData.shown (dWs ws)).length ≤ 2 + ws.length * (5 + b * 3) := by
  refine ⟨showAll_map dT ws fun w hw => (show_dT (h w hw).2).1, ?_⟩
  show (listText (PyData.shownAll (ws.map dT))).length ≤ _
  rw [shownAll_map]
  refine Nat.le_trans (listText_le _) (Nat.add_le_add_left (Nat.le_trans (lens_map _ (3 + b * 3) ws fun w hw => ?_) (Nat.mul_le_mul_left _ (by omega))) _)
  have h1 := (show_dT (h w hw).2).2
  have h2 := Nat.mul_le_mul_right 3 (h w hw).1
  omega
theorem show_bool (b : Bool) : PyData.showable (.bool b) = true ∧ (PyData.shown (.bool b)).length ≤ 5 := by
  cases b <;> exact ⟨rfl, by decide +kernel⟩
def dPr (a b : PyData) : PyData := .list [a, b]
theorem show_dPr {a b : PyData} {n m : Nat} (ha : PyData.showable a = true ∧ (PyData.shown a).length ≤ n) (hb : PyData.showable b = true ∧ (PyData.shown b).length ≤ m) : PyData.showable (dPr a b) = true ∧ (PyData.shown (dPr a b)).length ≤ 6 + n + m := by
  refine ⟨by show (PyData.showable a && (PyData.showable b && true)) = true; rw [ha.1, hb.1]; rfl, ?_⟩
  show (listText [PyData.shown a, PyData.shown b]).length ≤ _
  have := listText_le [PyData.shown a, PyData.shown b]
  have e : lens [PyData.shown a, PyData.shown b] = (PyData.shown a).length + 2 + ((PyData.shown b).length + 2 + 0) := rfl
  rw [e] at this
  have h1 := ha.2
  have h2 := hb.2
  omega
theorem dep_dWs (ws : List (List Int)) : PyData.depth (dWs ws) ≤ 2 := Nat.succ_le_succ (depAll_map dT dep_dT ws)
theorem dep_dPr {a b : PyData} {n : Nat} (ha : PyData.depth a ≤ n) (hb : PyData.depth b ≤ n) : PyData.depth (dPr a b) ≤ n + 1 := by
  show max (PyData.depth a) (max (PyData.depth b) 0) + 1 ≤ n + 1
  omega
theorem cnt2_dig {r : Int × List Int} {row works : List Int} (ho : RowOk r row) (h6 : r.1 ≤ 6) : Dig (cnt2 r row works) := by
  have h1 := List.length_filter_le (fun x => !decide (x ∈ works)) row
  have h2 := ho.2.2
  unfold cnt2 Dig
  dsimp only
  split <;> omega
section
variable {X : Cx}
/-- t + u, whatever is empty -/
def rCat1 (K : PySem.W.Frag) : R2 := fun x y H Q => ∃ a b xs ys, x = .ref a ∧ y = .ref b ∧ SqT K H a xs ∧ SqT K H b ys ∧ xs.length + ys.length ≤ sizeLine ∧ ∀ p H', Same H H' → SqT K H' p (xs ++ ys) → Q (.ref p) H'
theorem op_cat1 : OpR X (binaryOp .Add) (rCat1 X.K) := by
  intro pins s σ H x y v u Q I rx ry h
  obtain ⟨a, b, xs, ys, rfl, rfl, ha, hb, hz, q⟩ := h
  exact op_catA pins s σ H _ _ v u Q I rx ry ⟨a, b, xs, ys, rfl, rfl, ha, hb, hz, fun e => q b H (Same.refl H) (by rw [e]; exact hb), fun _ e => q a H (Same.refl H) (by rw [e, List.append_nil]; exact ha), fun _ _ p np => q p _ (sameU np) (.inl (.inl upd_same))⟩
end
end Ew
namespace Ew
open PySem PySem.Spec PyProof.Rows L2
/-! ### data that may hold an empty dict; lists at places that are as asked -/
mutual
inductive Dq (K : PySem.W.Frag) (P : Addr → Prop) (H : Hp) : V → PyData → Prop
  | non : Dq K P H .non .none
  | bl (b : Bool) : Dq K P H (.bl b) (.bool b)
  | int (i : Int) : Dq K P H (.int i) (.int i)
  | str (x : Str) : Dq K P H (.str x) (.str x)
  | lst {a : Addr} {xs : List V} {ds : List PyData} : P a → H a = some (.lst xs) → DqA K P H xs ds → Dq K P H (.ref a) (.list ds)
  | tup {a : Addr} {xs : List V} {ds : List PyData} : SqT K H a xs → DqA K P H xs ds → Dq K P H (.ref a) (.tuple ds)
  | dic {a : Addr} : H a = some (.dK []) → Dq K P H (.ref a) (.dict [])
inductive DqA (K : PySem.W.Frag) (P : Addr → Prop) (H : Hp) : List V → List PyData → Prop
  | nil : DqA K P H [] []
  | cons {v : V} {d : PyData} {vs : List V} {ds : List PyData} : Dq K P H v d → DqA K P H vs ds → DqA K P H (v :: vs) (d :: ds)
end
def tyD : PyData → String
  | .none => "NoneType"
  | .bool _ => "bool"
  | .int _ => "int"
  | .str _ => "str"
  | .list _ => "list"
  | .tuple _ => "tuple"
  | .dict _ => "dict"
theorem dq_bt {K : PySem.W.Frag} {P : Addr → Prop} {H : Hp} {v : V} {d : PyData} (h : Dq K P H v d) : TyX K H v (.type (tyD d)) := by
  cases h with
  | non => exact .base .non
  | bl b => exact .base (.bl b)
  | int i => exact .base (.int i)
  | str x => exact .base (.str x)
  | lst _ e _ => exact .base (.lst e)
  | tup q _ =>
    rcases q with (h | ⟨o, h⟩) | ⟨o, its, n, h, c, _⟩
    · exact .base (.tup h)
    · exact .fTuple h
    · exact .kTuple h c
  | dic e => exact .base (.dK e)
/-- what such data needs of another heap -/
def Over (P : Addr → Prop) (H H' : Hp) : Prop := ∀ a o, (∀ xs, o = .lst xs → P a) → H a = some o → H' a = some o
mutual
theorem Dq.over {K : PySem.W.Frag} {P : Addr → Prop} {H H' : Hp} (s : Over P H H') : ∀ {d : PyData} {v : V}, Dq K P H v d → Dq K P H' v d
  | .none, _, h => by cases h; exact .non
  | .bool _, _, h => by cases h; exact .bl _
  | .int _, _, h => by cases h; exact .int _
  | .str _, _, h => by cases h; exact .str _
  | .list ds, _, h => by
    cases h with
    | lst p e a => exact .lst p (s _ _ (fun _ _ => p) e) (DqA.over s a)
  | .tuple ds, _, h => by
    cases h with
    | tup q a =>
      refine .tup ?_ (DqA.over s a)
      rcases q with (h | ⟨o, h⟩) | h
      · exact .inl (.inl (s _ _ (fun xs e => by cases e) h))
      · exact .inl (.inr ⟨o, s _ _ (fun xs e => by cases e) h⟩)
      · exact .inr h
  | .dict kvs, _, h => by
    cases h with
    | dic e => exact .dic (s _ _ (fun xs e => by cases e) e)
theorem DqA.over {K : PySem.W.Frag} {P : Addr → Prop} {H H' : Hp} (s : Over P H H') : ∀ {ds : List PyData} {vs : List V}, DqA K P H vs ds → DqA K P H' vs ds
  | [], _, h => by cases h; exact .nil
  | d :: ds, _, h => by
    cases h with
    | cons a b => exact .cons (Dq.over s a) (DqA.over s b)
end
theorem over_same {P : Addr → Prop} {H H' : Hp} (s : Same H H') : Over P H H' := fun _ _ _ e => s _ _ e
theorem over_ext {P : Addr → Prop} {f : Addr} {H H' : Hp} (s : Ext1 f H H') (hf : FeedAt H f) (np : ¬ P f) : Over P H H' := fun a o h e => by
  by_cases n : a = f
  · subst n
    obtain ⟨d, t, z⟩ := hf
    rw [z] at e
    cases e
    exact absurd (h _ rfl) np
  · exact s.1 _ _ n e
theorem over_upd {P : Addr → Prop} {H : Hp} {D : Addr} {xs : List V} {o : HO} (e : H D = some (.lst xs)) (np : ¬ P D) : Over P H (upd H D o) := fun a u h z => by
  by_cases n : a = D
  · subst n
    rw [e] at z
    cases z
    exact absurd (h _ rfl) np
  · rw [upd_ne n]
    exact z
mutual
theorem Dq.imp {K : PySem.W.Frag} {P P' : Addr → Prop} {H : Hp} (s : ∀ a xs, H a = some (.lst xs) → P a → P' a) : ∀ {d : PyData} {v : V}, Dq K P H v d → Dq K P' H v d
  | .none, _, h => by cases h; exact .non
  | .bool _, _, h => by cases h; exact .bl _
  | .int _, _, h => by cases h; exact .int _
  | .str _, _, h => by cases h; exact .str _
  | .list ds, _, h => by
    cases h with
    | lst p e a => exact .lst (s _ _ e p) e (DqA.imp s a)
  | .tuple ds, _, h => by
    cases h with
    | tup q a => exact .tup q (DqA.imp s a)
  | .dict kvs, _, h => by
    cases h with
    | dic e => exact .dic e
theorem DqA.imp {K : PySem.W.Frag} {P P' : Addr → Prop} {H : Hp} (s : ∀ a xs, H a = some (.lst xs) → P a → P' a) : ∀ {ds : List PyData} {vs : List V}, DqA K P H vs ds → DqA K P' H vs ds
  | [], _, h => by cases h; exact .nil
  | d :: ds, _, h => by
    cases h with
    | cons a b => exact .cons (Dq.imp s a) (DqA.imp s b)
end
theorem DqA.len {K : PySem.W.Frag} {P : Addr → Prop} {H : Hp} : ∀ {vs : List V} {ds : List PyData}, DqA K P H vs ds → vs.length = ds.length
  | [], [], _ => rfl
  | _ :: vs, _ :: ds, .cons _ t => by rw [List.length_cons, List.length_cons, DqA.len t]
theorem DqA.at1 {K : PySem.W.Frag} {P : Addr → Prop} {H : Hp} : ∀ {vs : List V} {ds : List PyData} {i : Nat} {v : V}, DqA K P H vs ds → vs[i]? = some v → ∃ d, ds[i]? = some d ∧ Dq K P H v d
  | [], [], i, v, _, e => by simp at e
  | _ :: vs, _ :: ds, 0, v, .cons r _, e => by
    simp at e
    subst e
    exact ⟨_, rfl, r⟩
  | _ :: vs, _ :: ds, i + 1, v, .cons _ t, e => by
    obtain ⟨d, h1, h2⟩ := DqA.at1 (i := i) (v := v) t (by simpa using e)
    exact ⟨d, by simpa using h1, h2⟩
theorem dqA_ints {K : PySem.W.Frag} {P : Addr → Prop} {H : Hp} : ∀ l : List Int, DqA K P H (l.map V.int) (l.map PyData.int)
  | [] => .nil
  | _ :: l => .cons (.int _) (dqA_ints l)
theorem dqA_map {K : PySem.W.Frag} {P : Addr → Prop} {H : Hp} {α : Type} {R : V → α → Prop} {g : α → PyData} (h : ∀ v a, R v a → Dq K P H v (g a)) : ∀ {vs : List V} {as : List α}, Paired R vs as → DqA K P H vs (as.map g)
  | _, _, .nil => .nil
  | _, _, .cons r t => .cons (h _ _ r) (dqA_map h t)
theorem dq_dT {K : PySem.W.Frag} {P : Addr → Prop} {H : Hp} {v : V} {l : List Int} (h : RowT K H v l) : Dq K P H v (dT l) := let ⟨_, e, q⟩ := h; e ▸ .tup q (dqA_ints l)
theorem dqA_app {K : PySem.W.Frag} {P : Addr → Prop} {H : Hp} : ∀ {vs ws : List V} {ds es : List PyData}, DqA K P H vs ds → DqA K P H ws es → DqA K P H (vs ++ ws) (ds ++ es)
  | [], _, [], _, _, h => h
  | _ :: _, _, _ :: _, _, .cons a t, h => .cons a (dqA_app t h)
theorem dqA_set {K : PySem.W.Frag} {P : Addr → Prop} {H : Hp} {v : V} {d : PyData} (hv : Dq K P H v d) : ∀ {vs : List V} {ds : List PyData} (n : Nat), DqA K P H vs ds → DqA K P H (vs.set n v) (ds.set n d)
  | [], [], _, h => h
  | _ :: _, _ :: _, 0, .cons _ t => .cons hv t
  | _ :: _, _ :: _, n + 1, .cons a t => .cons a (dqA_set hv n t)
theorem dqA_dWs {K : PySem.W.Frag} {P : Addr → Prop} {H : Hp} {vs : List V} {ws : List (List Int)} (h : Paired (RowT K H) vs ws) : DqA K P H vs (ws.map dT) := dqA_map (g := dT) (fun _ _ z => dq_dT z) h
theorem dq_dWs {K : PySem.W.Frag} {P : Addr → Prop} {H : Hp} {a : Addr} {vs : List V} {ws : List (List Int)} (p : P a) (e : H a = some (.lst vs)) (h : Paired (RowT K H) vs ws) : Dq K P H (.ref a) (dWs ws) := .lst p e (dqA_dWs h)
/-! ### such data, read -/
section
variable {X : Cx} {pins : List (Addr × Obj)} {σ : L2.St} {H : Hp} {s : Shared} {P : Addr → Prop}
mutual
theorem dq_reads (I : L2.Inv X pins σ H s) (low : H sysModules = none) : ∀ (d : PyData) (v : V) (u : Value), Dq X.K P H v d → L2.RelV v u → ∃ as, Reads s.heap u d as ∧ sysModules ∉ as
  | .none, _, u, h, r => by
    cases h
    cases (show u = Value.none from r)
    exact ⟨_, .none, by simp⟩
  | .bool b, _, u, h, r => by
    cases h
    cases (show u = Value.bool b from r)
    exact ⟨_, .bool b, by simp⟩
  | .int i, _, u, h, r => by
    cases h
    obtain ⟨t, q⟩ := (show ∃ t, u = Value.int i t from r)
    cases q
    exact ⟨_, .int i t, by simp⟩
  | .str x, _, u, h, r => by
    cases h
    obtain ⟨t, q⟩ := (show ∃ t, u = Value.str x t from r)
    cases q
    exact ⟨_, .str x t, by simp⟩
  | .list ds, _, u, h, r => by
    cases h with
    | @lst a xs _ p e ha =>
      cases (show u = Value.ref a from r)
      obtain ⟨_, vs, n, rv, h1⟩ := (show ObjOk X.prog X.w H s.heap a (.lst xs) from I.hok a _ e)
      obtain ⟨as, ra, na⟩ := dqA_reads I low ds xs vs ha rv
      refine ⟨_, .list h1 rfl rfl ra, ?_⟩
      intro z
      rcases List.mem_cons.mp z with z | z
      · rw [z, e] at low
        cases low
      · exact na z
  | .tuple ds, _, u, h, r => by
    cases h with
    | @tup a xs _ q ha =>
      cases (show u = Value.ref a from r)
      obtain ⟨its, rv, ⟨o, h1, h2, n, h3⟩, _⟩ := I.tuple q
      obtain ⟨as, ra, na⟩ := dqA_reads I low ds xs its ha rv
      exact ⟨_, .tuple h1 h2 h3 (by simpa using ra), na⟩
  | .dict kvs, _, u, h, r => by
    cases h with
    | @dic a e =>
      cases (show u = Value.ref a from r)
      obtain ⟨_, z2, vs, z3, o, es, ep, h1, h2, h3, _, h5, _⟩ := (show ObjOk X.prog X.w H s.heap a (.dK []) from I.hok a _ e)
      cases z3
      have hes : es.toList = [] := by
        generalize es.toList = l at h5
        cases h5
        rfl
      refine ⟨_, .dict (as := []) (bs := []) h1 h2.1 h3 (by rw [hes]; exact .nil) (by rw [hes]; exact .nil), ?_⟩
      intro z
      rw [List.append_nil, List.mem_singleton] at z
      rw [← z] at z2
      simp at z2
theorem dqA_reads (I : L2.Inv X pins σ H s) (low : H sysModules = none) : ∀ (ds : List PyData) (vs : List V) (us : List Value), DqA X.K P H vs ds → Vals vs us → ∃ as, ReadsAll s.heap us ds as ∧ sysModules ∉ as
  | [], _, us, h, r => by
    cases h
    cases r
    exact ⟨_, .nil, by simp⟩
  | d :: ds, _, us, h, r => by
    cases h with
    | cons a b =>
      cases r with
      | cons r1 r2 =>
        obtain ⟨as, h1, n1⟩ := dq_reads I low d _ _ a r1
        obtain ⟨bs, h2, n2⟩ := dqA_reads I low ds _ _ b r2
        refine ⟨_, .cons h1 h2, ?_⟩
        intro z
        rcases List.mem_append.mp z with z | z
        · exact n1 z
        · exact n2 z
end
end
def rReprQ (K : PySem.W.Frag) : List V → Hp → VK → Prop := fun xs H Q => ∃ (P : Addr → Prop) (v : V) (d : PyData), xs = [v] ∧ Dq K P H v d ∧ d.showable = true ∧ d.depth ≤ 60 ∧ d.shown.length ≤ sizeLine ∧ Q (.str d.shown) H
section
variable {X : Cx}
theorem low_of {pins : List (Addr × Obj)} {σ : L2.St} {H : Hp} {s : Shared} (I : L2.Inv X pins σ H s) (hb : ∃ o, X.base.get? sysModules = some o) : H sysModules = none := by
  obtain ⟨o, e⟩ := hb
  obtain ⟨h1, h2⟩ := I.ok.bs _ _ e
  exact I.base.free _ _ h1 h2 (I.ok.noex _ _ e)
theorem call_reprQ (hb : ∃ o, X.base.get? sysModules = some o) (hg : X.A.guards = some []) (hu : X.A.units + 64 < cLine) : CallR X (.builtin "repr") (rReprQ X.K) := by
  intro pins s σ H xs us Q I r h
  obtain ⟨P, v, d, rfl, hd, hs, hdep, hsz, q⟩ := h
  cases r with
  | cons r1 r2 =>
    cases r2
    rename_i u
    obtain ⟨as, rd, na⟩ := dq_reads I (low_of I hb) d v u hd r1
    have fin : ∀ a, u = .ref a → wpAny (model X.prog X.w) X.A (call (.builtin "repr") [u]) (EP X pins σ Q) X.xe s := fun a e => by
      subst e
      exact repr_of_reads' rd hs (fun _ => na) hg (by omega) (fun _ _ e => e) (fun h' u tk hk => ⟨.str _, H, I.kept (t' := tk) hk, ⟨_, rfl⟩, q⟩) hsz
    cases hd with
    | non => cases (show u = Value.none from r1); exact PySem.P.repr_of_none ⟨.str _, H, I.tok _, ⟨_, rfl⟩, q⟩
    | bl b => cases (show u = Value.bool b from r1); exact PySem.P.repr_of_bool ⟨.str _, H, I.tok _, ⟨_, rfl⟩, q⟩
    | int i => obtain ⟨t, e⟩ := (show ∃ t, u = Value.int i t from r1); cases e; exact PySem.P.repr_of_int (of_decide_eq_true hs) ⟨.str _, H, I.tok _, ⟨_, rfl⟩, q⟩
    | str y => obtain ⟨t, e⟩ := (show ∃ t, u = Value.str y t from r1); cases e; exact PySem.P.repr_of_str (hsz := hsz) ⟨.str _, H, I.tok _, ⟨_, rfl⟩, q⟩
    | lst _ _ _ => exact fin _ r1
    | tup _ _ => exact fin _ r1
    | dic _ => exact fin _ r1
/-! ### xs != [], whatever stands in xs -/
def rNeNil (K : PySem.W.Frag) (neg : Bool) : R2 := fun x y H Q => ∃ a b xs, x = .ref a ∧ y = .ref b ∧ SqL K H a xs ∧ SqL K H b [] ∧ Q (.bl (if neg then !xs.isEmpty else xs.isEmpty)) H
theorem isL {h : Heap} {a : Addr} {its : Array Value} (p : PlainL h a its) : h.IsList a its := let ⟨o, n, e, c, _, d⟩ := p; ⟨o, e, c, n, d⟩
theorem op_neNil (hu : X.A.units < cLine) : OpR X (compareOp .NotEq) (rNeNil X.K true) := by
  intro pins s σ H x y v u Q I rx ry h
  obtain ⟨a, b, xs, rfl, rfl, ha, hb, q⟩ := h
  cases (show v = Value.ref a from rx)
  cases (show u = Value.ref b from ry)
  obtain ⟨ia, va, la, _⟩ := I.list ha
  obtain ⟨ib, vb, lb, _⟩ := I.list hb
  cases vb
  cases va with
  | nil => exact SeqAt.RcNeAt.lists (e := fun _ => true) (isL la) (isL lb) rfl hu (fun j h1 h2 => absurd h1 (by simp)) _ _ _ _ ⟨.bl false, H, I, rfl, q⟩
  | cons r t => exact SeqAt.RcNeAt.lists_lengths (isL la) (isL lb) (by simp) hu _ _ _ _ ⟨.bl true, H, I, rfl, q⟩
theorem op_eqNil (hu : X.A.units < cLine) : OpR X (compareOp .Eq) (rNeNil X.K false) := by
  intro pins s σ H x y v u Q I rx ry h
  obtain ⟨a, b, xs, rfl, rfl, ha, hb, q⟩ := h
  cases (show v = Value.ref a from rx)
  cases (show u = Value.ref b from ry)
  obtain ⟨ia, va, la, _⟩ := I.list ha
  obtain ⟨ib, vb, lb, _⟩ := I.list hb
  cases vb
  cases va with
  | nil => exact SeqAt.RcAt.lists (e := fun _ => true) (isL la) (isL lb) rfl hu (fun j h1 h2 => absurd h1 (by simp)) _ _ _ _ ⟨.bl true, H, I, rfl, q⟩
  | cons r t => exact SeqAt.RcAt.lists_lengths (isL la) (isL lb) (by simp) hu _ _ _ _ ⟨.bl false, H, I, rfl, q⟩
/-! ### set(t), t a tuple of ints -/
def rSetOfI (K : PySem.W.Frag) (w : World) : List V → Hp → VK → Prop := fun vs H Q => ∃ (l : Addr) (ns : List Int), vs = [V.ref l] ∧ SqT K H l (ns.map V.int) ∧ ns.length ≤ 1000 ∧ ∀ a c, H a = none → c ≤ ns.length → Q (.ref a) (upd H a (SetO w a (fun j => decide (j ∈ ns)) c))
theorem cr_setOfI (hc : X.calm = true) : CallR X (.type "set") (rSetOfI X.K X.w) := by
  intro pins s σ H vs us Q I r h
  obtain ⟨l, ns, rfl, hs, hl, q⟩ := h
  obtain ⟨its, rv, ht, _⟩ := I.tuple hs
  rw [Vals.ref1 r]
  refine call_set_tupI ns (I.ok.hd hc) ht rv.ints (Nat.lt_of_le_of_lt (Nat.succ_le_succ hl) (by decide)) fun h' tk c hS hc' hk => ?_
  refine ⟨.ref _, upd H s.heap.objs.size (SetO X.w s.heap.objs.size (fun j => decide (j ∈ ns)) c), I.laid (t' := tk) hk (Nat.le_refl _) ?_, rfl, q _ c I.fresh hc'⟩
  obtain ⟨o, es, ep, t, e, rest⟩ := id hS
  refine ⟨hS, ⟨o, e⟩, fun h1 h2 hp hk2 => ?_⟩
  obtain ⟨o', es', ep', t', e', rest'⟩ := hp
  exact ⟨o', es', ep', t', hk2 _ e', rest'⟩
end
end Ew
namespace Ew
open PySem PySem.Spec PyProof.Rows L2
/-! ### t[::-1] of a tuple -/
theorem fm_congr {α β : Type} {f g : α → Option β} : ∀ {l : List α}, (∀ x ∈ l, f x = g x) → l.filterMap f = l.filterMap g
  | [], _ => rfl
  | a :: l, h => by
    rw [List.filterMap_cons, List.filterMap_cons, h a (by simp), fm_congr fun x hx => h x (by simp [hx])]
theorem pick_rev (xs : Array Value) : (List.filterMap (fun k => xs[((xs.size : Int) - 1 + ((k : Nat) : Int) * -1).toNat]?) (List.range xs.size)).toArray = xs.toList.reverse.toArray := by
  congr 1
  obtain ⟨l⟩ := xs
  show List.filterMap (fun k => (List.toArray l)[((l.length : Int) - 1 + ((k : Nat) : Int) * -1).toNat]?) (List.range l.length) = l.reverse
  have e : ∀ k ∈ List.range l.length, (fun (k : Nat) => (List.toArray l)[((l.length : Int) - 1 + ((k : Nat) : Int) * -1).toNat]?) k = (fun (k : Nat) => l.reverse[k]?) k := by
    intro k hk
    have hk' := List.mem_range.mp hk
    show (List.toArray l)[((l.length : Int) - 1 + ((k : Nat) : Int) * -1).toNat]? = l.reverse[k]?
    rw [List.getElem?_reverse hk', List.getElem?_toArray]
    congr 1
    omega
  rw [fm_congr e]
  have : ∀ r : List Value, List.filterMap (fun k => r[k]?) (List.range r.length) = r := by
    intro r
    refine List.ext_getElem? fun i => ?_
    have : List.filterMap (fun k => r[k]?) (List.range r.length) = (List.range r.length).map fun k => r.getD k .none := by
      rw [← List.filterMap_eq_map]
      refine fm_congr fun k hk => ?_
      have hk' := List.mem_range.mp hk
      simp [List.getD, hk']
    rw [this, List.getElem?_map]
    by_cases h : i < r.length
    · rw [List.getElem?_range h]
      simp [List.getD, h]
    · rw [List.getElem?_eq_none (by simpa using h), List.getElem?_eq_none (by simpa using h)]
      rfl
  have h2 := this l.reverse
  rw [List.length_reverse] at h2
  exact h2
section
variable {prog : Program} {w : World} {A : Around} {E : Value → Shared → Prop} {s : Shared}
theorem applied_rev {sl : Addr} {u : Tok} {n : Nat} {Q : Int × Int × Nat → Shared → Prop} (hs : s.heap.IsSliceOf sl .none .none (.int (-1) u)) (h : Q ((n : Int) - 1, -1, n) s) :
    wpAny (model prog w) A (Builtin.Slice.sliceApplied (.ref sl) (pure (n : Int))) Q E s := by
  obtain ⟨os, hos, hcs, hds⟩ := id hs
  unfold Builtin.Slice.sliceApplied
  refine wpAny_bind (wpAny_bind (wpAny_field hos hds rfl (wpAny_bind (wpAny_field hos hds rfl (wpAny_bind (wpAny_field hos hds rfl (wpAny_pure ?_)))))))
  refine wpAny_bind (HT.slicePart_ (.int (-1) u) ?_)
  dsimp only
  rw [if_neg (by decide)]
  refine wpAny_bind (slicePart_none (wpAny_bind (slicePart_none (wpAny_bind (wpAny_pure ?_)))))
  have e1 : Builtin.Slice.sliceAdjust none none (-1) (n : Int) = ((n : Int) - 1, -1) := rfl
  have e2 : Builtin.Slice.slicePlaces ((n : Int) - 1) (-1) (-1) = n := by
    unfold Builtin.Slice.slicePlaces
    rw [if_neg (by decide)]
    by_cases hn : n = 0
    · subst hn
      rfl
    · rw [if_pos (by omega)]
      have : ((n : Int) - 1 - -1 - 1) / - -1 + 1 = n := by
        rw [Int.neg_neg, Int.ediv_one]
        omega
      rw [this]
      exact Int.toNat_natCast n
  show wpAny _ _ (match Builtin.Slice.sliceAdjust none none (-1) (n : Int) with
    | (lo, hi) => pure (lo, -1, Builtin.Slice.slicePlaces lo hi (-1))) _ _ _
  rw [e1]
  show wpAny _ _ (pure ((n : Int) - 1, -1, Builtin.Slice.slicePlaces ((n : Int) - 1) (-1) (-1))) _ _ _
  rw [e2]
  exact wpAny_pure h
theorem getItem_tuple_rev {t sl : Addr} {items : Array Value} {u : Tok} {Q : Value → Shared → Prop} (ht : IsTup s.heap t items) (hs : s.heap.IsSliceOf sl .none .none (.int (-1) u)) (hsz : items.size ≤ sizeLine)
    (h : Q (.ref s.heap.objs.size) { s with heap := s.heap.push { cls := .type "tuple", data := .seq items.toList.reverse.toArray } }) : wpAny (model prog w) A (getItem (.ref t) (.ref sl)) Q E s := by
  obtain ⟨os, hos, hcs, hds⟩ := id hs
  have hTs : s.TypeIs (.ref sl) "slice" := ⟨os, hos, hcs⟩
  unfold getItem
  refine wpAny_holding (wpAny_bind (wpAny_sequenceKey (IsTup.typeIs ht) (by decide) (wpAny_bind (wpAny_callSpecial?_slot (IsTup.typeIs ht) slot_tuple_getitem (wpAny_call_entry slot_tuple_getitem (IsTup.typeIs ht) entry_tuple_getitem ?_ (args_tuple_getitem _ _))))))
  show wpAny _ _ (Builtin.«tuple.__getitem__» ⟨[.ref t, .ref sl], []⟩) _ _ _
  unfold Builtin.«tuple.__getitem__»
  refine wpAny_bind (m := slotArgs "__getitem__" 1 ⟨[.ref t, .ref sl], []⟩) (wpAny_pure ?_)
  refine wpAny_bind (tupleItemsOf_ ht (wpAny_bind (wpAny_typeOf hTs ?_)))
  rw [if_pos (by decide)]
  refine wpAny_bind (applied_rev hs ?_)
  dsimp only
  rw [if_neg (by rw [show (((-1 : Int) == 1) = false) from rfl, Bool.and_false, Bool.false_and]; decide)]
  rw [pick_rev]
  refine wpAny_bind (wpAny_newObj_type (wpAny_pure ⟨_, rfl, wpAny_pure h⟩) ?_)
  show items.toList.reverse.toArray.size ≤ sizeLine
  simpa using hsz
end
def tRevT (K : PySem.W.Frag) (te : TE) : TE := fun σ H Q => te σ H fun x H1 => ∃ a xs, x = .ref a ∧ SqT K H1 a xs ∧ ∀ p, H1 p = none → Q (.ref p) (upd H1 p (.tup xs.reverse))
section
variable {X : Cx} {e : Expr} {te : TE}
theorem pe_revT {k : Nat} {p1 p2 p3 pos : Pos} (he : PE X e te) : PE X (e.Subscript (.Slice none none (some (.UnaryOp .USub (.Constant (.int 1) k p1) p2)) p3) pos) (tRevT X.K te) := by
  refine ⟨fun pins s σ H Q I h => Subscript_ (thn (he.run pins s σ H _ I h) fun v s1 ⟨x, H1, I1, r1, q1⟩ => ?_)⟩
  obtain ⟨a, xs, rfl, hx, q⟩ := q1
  cases (show v = Value.ref a from r1)
  refine wpAny_Slice ?_
  rw [evalPart_none X.env]
  refine wpAny_pure ?_
  refine wpAny_pure (thn ((po_some (pe_un un_neg pe_int)).run pins s1 σ H1 (fun o H4 => o = some (-1) ∧ H4 = H1) I1 ⟨1, rfl, -1, rfl, rfl, rfl⟩) fun vs s4 ⟨o, H4, I4, ps, eo, e4⟩ => ?_)
  subst eo
  subst e4
  cases ps with
  | int _ u =>
    have I5 := I4.kept (t' := s4.toks) (h' := s4.heap.push { cls := .type "slice", data := .fields #[.none, .none, .int (-1) u] }) fun b ob q => Heap.get?_push_of_some _ q
    obtain ⟨its, rv, ht, hz⟩ := I5.tuple hx
    refine tail_any (IsTup.typeIs ht) slot_tuple_getitem.lookup ?_ rfl
    refine getItem_tuple_rev ht (Heap.IsSliceOf.new s4.heap _ _ _) (by rw [List.size_toArray, ← rv.length]; exact hz) ?_
    refine ⟨.ref _, upd H4 _ (.tup xs.reverse), I5.laid (t' := s4.toks) (fun b ob q => Heap.get?_push_of_some _ q) (Nat.le_refl _) ?_, rfl, q _ I5.fresh⟩
    have rr : Vals xs.reverse its.reverse := Paired.rev rv
    exact ⟨by rw [List.length_reverse]; exact hz, its.reverse, rr, _, Heap.get?_push_size _ rfl, rfl, 0, by simp⟩
end
/-! ### xs[a:b] = ys -/
def gSlc (to : TE) (tl th : TO) : TG := fun v σ H Q => to σ H fun x H1 => tl σ H1 fun lo H2 => th σ H2 fun hi H3 => ∃ (a b : Addr) (xs ys : List V) (i c : Int), x = .ref a ∧ v = .ref b ∧ lo = some i ∧ hi = some c ∧ H3 a = some (.lst xs) ∧ H3 b = some (.lst ys) ∧ a ≠ b ∧ 0 ≤ i ∧ i ≤ c ∧ c ≤ (xs.length : Int) ∧ xs.length + ys.length ≤ sizeLine ∧ Q σ (upd H3 a (.lst (xs.take i.toNat ++ ys ++ xs.drop c.toNat)))
section
variable {X : Cx} {o : Expr} {to : TE} {lo hi : Option Expr} {tl th : TO} {pos p2 : Pos}
theorem pg_slc (ho : PE X o to) (hl : PO X lo tl) (hh : PO X hi th)
    (ha : ∀ v : Value, assign (o.Subscript (.Slice lo hi none p2) pos) X.env v = (do
      let ov ← holding [v] (eval o X.env)
      let iv ← holding [v, ov] (eval (.Slice lo hi none p2) X.env)
      standAt pos
      holding [v, ov, iv] (setItem ov iv v)
      release [iv, v, ov] []) := by intro _; rfl) : PG X (o.Subscript (.Slice lo hi none p2) pos) (gSlc to tl th) := by
  refine ⟨fun pins s σ H v u Q I r h => ?_⟩
  rw [ha u]
  refine wpAny_bind (wpAny_holding (thn (ho.run pins s σ H _ I h) fun ov s1 ⟨x, H1, I1, r1, q1⟩ => wpAny_bind (wpAny_holding (wpAny_Slice (thn (hl.run pins s1 σ H1 _ I1 q1) fun vl s2 ⟨l, H2, I2, pl, q2⟩ => thn (hh.run pins s2 σ H2 _ I2 q2) fun vu s3 ⟨z, H3, I3, pu, q3⟩ => ?_)))))
  rw [evalPart_none X.env]
  refine wpAny_pure (wpAny_bind (wpAny_standAt (wpAny_bind (wpAny_holding ?_))))
  obtain ⟨a, b, xs, ys, i, c, rfl, rfl, rfl, rfl, hA, hB, nab, i0, ic, cl, hz, q⟩ := q3
  cases (show ov = Value.ref a from r1)
  cases (show u = Value.ref b from r)
  cases pl with
  | int _ t1 =>
    cases pu with
    | int _ t2 =>
      have I4 := I3.kept (t' := s3.toks) (h' := s3.heap.push { cls := .type "slice", data := .fields #[.int i t1, .int c t2, .none] }) fun b ob q => Heap.get?_push_of_some _ q
      exact set_slice I4 hA hB nab (Heap.IsSliceOf.new s3.heap _ _ _) ⟨_, rfl⟩ ⟨_, rfl⟩ i0 ic cl hz fun s' I5 => wpAny_release ⟨σ, _, I5, q⟩
end
end Ew
namespace Ew
open PySem PySem.Spec PyProof.Rows L2
/-! ### rows as data of any kind -/
instance (r : Int × List Int) (w : List Int) : Decidable (RowOk r w) := by unfold RowOk; infer_instance
def intsOf : List PyData → Option (List Int)
  | [] => some []
  | .int i :: r => (intsOf r).map (i :: ·)
  | _ :: _ => none
def rowOf : PyData → Option (List Int)
  | .tuple ds => intsOf ds
  | _ => none
def isRowD (r : Int × List Int) (d : PyData) : Bool := match rowOf d with
  | some w => decide (RowOk r w)
  | none => false
def areRowsD (rs : List (Int × List Int)) : PyData → Bool
  | .list ds => decide (ds.length = rs.length) && (ds.zip rs).all fun p => isRowD p.2 p.1
  | _ => false
def ascI (n : Int) : Int → List Int → Bool
  | _, [] => true
  | l, i :: r => decide (l < i) && decide (i < n) && ascI n i r
theorem intsOf_map : ∀ w : List Int, intsOf (w.map .int) = some w
  | [] => rfl
  | i :: w => by
    show (intsOf (w.map .int)).map (i :: ·) = _
    rw [intsOf_map w]
    rfl
theorem rowOf_dT (w : List Int) : rowOf (dT w) = some w := intsOf_map w
theorem ascI_iff {n : Int} : ∀ {w : List Int} {l : Int}, ascI n l w = true ↔ w.Pairwise (· < ·) ∧ ∀ x ∈ w, l < x ∧ x < n
  | [], l => by simp [ascI]
  | i :: w, l => by
    have ih := ascI_iff (n := n) (w := w) (l := i)
    show (decide (l < i) && decide (i < n) && ascI n i w) = true ↔ _
    rw [Bool.and_eq_true, Bool.and_eq_true, ih, decide_eq_true_eq, decide_eq_true_eq, List.pairwise_cons]
    constructor
    · rintro ⟨⟨h1, h2⟩, h3, h4⟩
      refine ⟨⟨fun x hx => (h4 x hx).1, h3⟩, fun x hx => ?_⟩
      rcases List.mem_cons.mp hx with e | e
      · subst e; exact ⟨h1, h2⟩
      · have := h4 x e; omega
    · rintro ⟨⟨h1, h2⟩, h3⟩
      have h0 := h3 i (by simp)
      exact ⟨h0, h2, fun x hx => ⟨h1 x hx, (h3 x (by simp [hx])).2⟩⟩
section
variable {K : PySem.W.Frag} {P : Addr → Prop} {H : Hp}
theorem ints_of : ∀ {vs : List V} {ds : List PyData} {w : List Int}, DqA K P H vs ds → intsOf ds = some w → vs = w.map V.int ∧ ds = w.map .int
  | [], [], w, _, e => by
    cases (show w = [] from (Option.some.inj e).symm)
    exact ⟨rfl, rfl⟩
  | v :: vs, d :: ds, w, .cons a t, e => by
    cases a with
    | int i =>
      cases h : intsOf ds with
      | none =>
        have : intsOf (.int i :: ds) = none := by show (intsOf ds).map (i :: ·) = none; rw [h]; rfl
        rw [this] at e
        cases e
      | some w' =>
        have : intsOf (.int i :: ds) = some (i :: w') := by show (intsOf ds).map (i :: ·) = _; rw [h]; rfl
        rw [this] at e
        cases e
        obtain ⟨e1, e2⟩ := ints_of t h
        rw [e1, e2]
        exact ⟨rfl, rfl⟩
    | _ => cases e
theorem dqA_ty {vs : List V} {ds : List PyData} (h : DqA K P H vs ds) : ∀ y ∈ vs, ∃ T, TyX K H y (.type T) := by
  intro y hy
  obtain ⟨i, hi⟩ := List.getElem?_of_mem hy
  obtain ⟨d, _, hd⟩ := h.at1 hi
  exact ⟨_, dq_bt hd⟩
end
theorem RdOk.mem {n : Int} {r : Int × List Int} (h : RdOk n r) {x : Int} (hx : x ∈ r.2) : 0 ≤ x ∧ x < n := h.2.2.2 x hx
/-- a row, as the package looks at it -/
theorem isRow_asc {n : Int} {r : Int × List Int} {w : List Int} (h : RdOk n r) : decide (RowOk r w) = (ascI n (-1) w && (decide ((w.length : Int) ≤ r.1) && w.all fun x => decide (x ∈ r.2))) := by
  rw [Bool.eq_iff_iff, Bool.and_eq_true, Bool.and_eq_true, ascI_iff, decide_eq_true_eq, decide_eq_true_eq, List.all_eq_true]
  constructor
  · rintro ⟨h1, h2, h3⟩
    exact ⟨⟨h1, fun x hx => by have := h.mem (h2 x hx); omega⟩, h3, fun x hx => decide_eq_true (h2 x hx)⟩
  · rintro ⟨⟨h1, _⟩, h3, h4⟩
    exact ⟨h1, fun x hx => of_decide_eq_true (h4 x hx), h3⟩
theorem asc_same : ∀ {a b : List Int}, a.Pairwise (· < ·) → b.Pairwise (· < ·) → (∀ x, x ∈ a ↔ x ∈ b) → a = b
  | [], [], _, _, _ => rfl
  | [], y :: b, _, _, h => by have := (h y).mpr (by simp); simp at this
  | x :: a, [], _, _, h => by have := (h x).mp (by simp); simp at this
  | x :: a, y :: b, ha, hb, h => by
    have ha' := List.pairwise_cons.mp ha
    have hb' := List.pairwise_cons.mp hb
    have e : x = y := by
      rcases List.mem_cons.mp ((h x).mp (by simp)) with e | e
      · exact e
      · rcases List.mem_cons.mp ((h y).mpr (by simp)) with e2 | e2
        · exact e2.symm
        · have := hb'.1 x e
          have := ha'.1 y e2
          omega
    subst e
    have : a = b := asc_same ha'.2 hb'.2 fun z => by
      constructor
      · intro hz
        rcases List.mem_cons.mp ((h z).mp (by simp [hz])) with e | e
        · have := ha'.1 z hz; omega
        · exact e
      · intro hz
        rcases List.mem_cons.mp ((h z).mpr (by simp [hz])) with e | e
        · have := hb'.1 z hz; omega
        · exact e
    rw [this]
/-- a list is its own things in order, once each, where it is ascending -/
theorem sorted_self {w ns : List Int} (h1 : ns.Pairwise (· < ·)) (h2 : ∀ k, k ∈ ns ↔ k ∈ w) : decide (w = ns) = decide (w.Pairwise (· < ·)) := by
  rw [Bool.eq_iff_iff, decide_eq_true_eq, decide_eq_true_eq]
  constructor
  · intro e; rw [e]; exact h1
  · intro h; exact asc_same h h1 fun x => (h2 x).symm
/-- data that is rows -/
theorem rows_of {K : PySem.W.Frag} {P : Addr → Prop} {H : Hp} : ∀ {rs : List (Int × List Int)} {ds : List PyData} {vs : List V}, DqA K P H vs ds → ds.length = rs.length → ((ds.zip rs).all fun p => isRowD p.2 p.1) = true →
    ∃ ws : List (List Int), ds = ws.map dT ∧ Paired (RowT K H) vs ws ∧ Paired RowOk rs ws
  | [], [], [], _, _, _ => ⟨[], rfl, .nil, .nil⟩
  | r :: rs, d :: ds, v :: vs, .cons a t, el, h => by
    have h' : isRowD r d = true ∧ ((ds.zip rs).all fun p => isRowD p.2 p.1) = true := by
      rw [List.zip_cons_cons, List.all_cons, Bool.and_eq_true] at h
      exact h
    obtain ⟨ws, e1, e2, e3⟩ := rows_of t (by simpa using el) h'.2
    have h1 := h'.1
    unfold isRowD at h1
    cases a with
    | @tup ad xs es q ha =>
      cases he : intsOf es with
      | none =>
        have : rowOf (.tuple es) = none := he
        rw [this] at h1
        cases h1
      | some w =>
        have : rowOf (.tuple es) = some w := he
        rw [this] at h1
        obtain ⟨f1, f2⟩ := ints_of ha he
        subst f1
        subst f2
        refine ⟨w :: ws, ?_, .cons ⟨_, rfl, q⟩ e2, .cons (of_decide_eq_true h1) e3⟩
        rw [e1]
        rfl
    | _ => cases h1
/-! ### the present rows -/
def presR (as : List Int) : Nat → List (List Int) → List (List Int)
  | _, [] => []
  | k, w :: ws => if ((k : Nat) : Int) ∈ as then presR as (k + 1) ws else w :: presR as (k + 1) ws
theorem presR_snoc (as : List Int) (w : List Int) : ∀ (ws : List (List Int)) (k : Nat), presR as k (ws ++ [w]) = presR as k ws ++ (if ((k + ws.length : Nat) : Int) ∈ as then [] else [w])
  | [], k => rfl
  | v :: ws, k => by
    have ih := presR_snoc as w ws (k + 1)
    have e : k + 1 + ws.length = k + (v :: ws).length := by rw [List.length_cons]; omega
    rw [e] at ih
    show (if ((k : Nat) : Int) ∈ as then presR as (k + 1) (ws ++ [w]) else v :: presR as (k + 1) (ws ++ [w])) = (if ((k : Nat) : Int) ∈ as then presR as (k + 1) ws else v :: presR as (k + 1) ws) ++ _
    rw [ih]
    split <;> rfl
theorem presR_len (as : List Int) : ∀ (ws : List (List Int)) (k : Nat), (presR as k ws).length ≤ ws.length
  | [], _ => Nat.le_refl _
  | v :: ws, k => by
    have ih := presR_len as ws (k + 1)
    show (if ((k : Nat) : Int) ∈ as then presR as (k + 1) ws else v :: presR as (k + 1) ws).length ≤ _
    split
    · rw [List.length_cons]; omega
    · rw [List.length_cons, List.length_cons]; omega
theorem presR_nil : ∀ (ws : List (List Int)) (k : Nat), presR [] k ws = ws
  | [], _ => rfl
  | v :: ws, k => by
    show (if ((k : Nat) : Int) ∈ [] then presR [] (k + 1) ws else v :: presR [] (k + 1) ws) = _
    rw [if_neg (by simp), presR_nil ws]
theorem presR_mem (as : List Int) : ∀ (ws : List (List Int)) (k : Nat) {w : List Int}, w ∈ presR as k ws → w ∈ ws
  | v :: ws, k, w, h => by
    have h' : w ∈ (if ((k : Nat) : Int) ∈ as then presR as (k + 1) ws else v :: presR as (k + 1) ws) := h
    split at h'
    · exact List.mem_cons_of_mem _ (presR_mem as ws (k + 1) h')
    · rcases List.mem_cons.mp h' with e | e
      · rw [e]; simp
      · exact List.mem_cons_of_mem _ (presR_mem as ws (k + 1) e)
/-- rows in which absent readers read nothing, and the others what they read -/
def contB (as : List Int) : Nat → List (List Int) → List (List Int) → Bool
  | k, w :: ws, v :: vs => (if ((k : Nat) : Int) ∈ as then decide (v = []) else w.all fun x => decide (x ∈ v)) && contB as (k + 1) ws vs
  | _, _, _ => true
theorem contB_pres {as : List Int} {c : Int} : ∀ {ws vs : List (List Int)} {k : Nat}, ws.length = vs.length → contB as k ws vs = true → ((presR as k vs).filter fun r => decide (c ∈ r)) = vs.filter fun r => decide (c ∈ r)
  | [], [], _, _, _ => rfl
  | w :: ws, v :: vs, k, el, h => by
    have h' : (if ((k : Nat) : Int) ∈ as then decide (v = []) else w.all fun x => decide (x ∈ v)) = true ∧ contB as (k + 1) ws vs = true := by
      have : ((if ((k : Nat) : Int) ∈ as then decide (v = []) else w.all fun x => decide (x ∈ v)) && contB as (k + 1) ws vs) = true := h
      exact Bool.and_eq_true_iff.mp this
    have ih := contB_pres (c := c) (k := k + 1) (by simpa using el) h'.2
    have h1 := h'.1
    show ((if ((k : Nat) : Int) ∈ as then presR as (k + 1) vs else v :: presR as (k + 1) vs).filter fun r => decide (c ∈ r)) = _
    by_cases hk : ((k : Nat) : Int) ∈ as
    · rw [if_pos hk, ih]
      rw [if_pos hk] at h1
      have := of_decide_eq_true h1
      subst this
      rfl
    · rw [if_neg hk, List.filter_cons, List.filter_cons, ih]
end Ew
namespace Ew
open PySem PySem.Spec PyProof.Rows L2
/-! ### small data: what its repr asks -/
structure Sm (n b : Nat) (d : PyData) : Prop where
  can : d.showable = true
  dep : d.depth ≤ n
  len : d.shown.length ≤ b
theorem Sm.mono {n m b c : Nat} {d : PyData} (h : Sm n b d) (h1 : n ≤ m) (h2 : b ≤ c) : Sm m c d := ⟨h.can, Nat.le_trans h.dep h1, Nat.le_trans h.len h2⟩
theorem showAll_of : ∀ {ds : List PyData}, (∀ d ∈ ds, d.showable = true) → PyData.showableAll ds = true
  | [], _ => rfl
  | d :: ds, h => by
    show (PyData.showable d && PyData.showableAll ds) = true
    rw [h d (by simp), showAll_of fun x hx => h x (by simp [hx])]
    rfl
theorem depAll_of {n : Nat} : ∀ {ds : List PyData}, (∀ d ∈ ds, d.depth ≤ n) → PyData.depthAll ds ≤ n
  | [], _ => Nat.zero_le _
  | d :: ds, h => Nat.max_le.mpr ⟨h d (by simp), depAll_of fun x hx => h x (by simp [hx])⟩
theorem shownAll_eq : ∀ ds : List PyData, PyData.shownAll ds = ds.map PyData.shown
  | [] => rfl
  | d :: ds => by
    show PyData.shown d :: PyData.shownAll ds = _
    rw [shownAll_eq ds]
    rfl
theorem sm_list {n b : Nat} {ds : List PyData} (h : ∀ d ∈ ds, Sm n b d) : Sm (n + 1) (3 + ds.length * (b + 2)) (.list ds) := by
  refine ⟨showAll_of fun d hd => (h d hd).can, Nat.succ_le_succ (depAll_of fun d hd => (h d hd).dep), ?_⟩
  show (listText (PyData.shownAll ds)).length ≤ _
  rw [shownAll_eq]
  have h1 := listText_le (ds.map PyData.shown)
  have h2 := lens_map PyData.shown b ds fun d hd => (h d hd).len
  omega
theorem sm_tuple {n b : Nat} {ds : List PyData} (h : ∀ d ∈ ds, Sm n b d) : Sm (n + 1) (3 + ds.length * (b + 2)) (.tuple ds) := by
  refine ⟨showAll_of fun d hd => (h d hd).can, Nat.succ_le_succ (depAll_of fun d hd => (h d hd).dep), ?_⟩
  show (tupleText (PyData.shownAll ds)).length ≤ _
  rw [shownAll_eq]
  have h1 := tupleText_le (ds.map PyData.shown)
  have h2 := lens_map PyData.shown b ds fun d hd => (h d hd).len
  omega
theorem sm_dig {i : Int} (h : Dig i) : Sm 0 1 (.int i) := ⟨(show_int h).1, Nat.zero_le _, (show_int h).2⟩
theorem sm_neg : Sm 0 2 (.int (-1)) := ⟨by decide +kernel, Nat.zero_le _, by decide +kernel⟩
theorem sm_non : Sm 0 4 .none := ⟨rfl, Nat.zero_le _, by decide +kernel⟩
theorem sm_bl (b : Bool) : Sm 0 5 (.bool b) := ⟨(show_bool b).1, Nat.zero_le _, (show_bool b).2⟩
theorem sm_nil : Sm 1 2 (.list []) := ⟨rfl, Nat.le_refl _, by decide +kernel⟩
theorem sm_tnil : Sm 1 2 (.tuple []) := ⟨rfl, Nat.le_refl _, by decide +kernel⟩
theorem sm_dic : Sm 1 2 (.dict []) := ⟨by decide +kernel, by decide +kernel, by decide +kernel⟩
/-- few small ints -/
def SmI (w : List Int) : Prop := w.length ≤ 20 ∧ ∀ x ∈ w, Dig x
theorem sm_ints {w : List Int} (h : ∀ x ∈ w, Dig x) : ∀ d ∈ w.map PyData.int, Sm 0 1 d := by
  intro d hd
  obtain ⟨x, hx, rfl⟩ := List.mem_map.mp hd
  exact sm_dig (h x hx)
theorem sm_dT {w : List Int} (h : SmI w) : Sm 2 400 (dT w) := by
  refine (sm_tuple (sm_ints h.2)).mono (by decide) ?_
  have := h.1
  rw [List.length_map]
  omega
/-- a value that is small data -/
def Nice (K : PySem.W.Frag) (P : Addr → Prop) (n b : Nat) (H : Hp) (v : V) : Prop := ∃ d, Dq K P H v d ∧ Sm n b d
section
variable {K : PySem.W.Frag} {P : Addr → Prop} {n b : Nat} {H H' : Hp} {v : V}
theorem Nice.over (s : Over P H H') (h : Nice K P n b H v) : Nice K P n b H' v := let ⟨d, h1, h2⟩ := h; ⟨d, h1.over s, h2⟩
theorem Nice.mono {m c : Nat} (h : Nice K P n b H v) (h1 : n ≤ m) (h2 : b ≤ c) : Nice K P m c H v := let ⟨d, a, z⟩ := h; ⟨d, a, z.mono h1 h2⟩
theorem Nice.imp {P' : Addr → Prop} (s : ∀ a xs, H a = some (.lst xs) → P a → P' a) (h : Nice K P n b H v) : Nice K P' n b H v := let ⟨d, a, z⟩ := h; ⟨d, a.imp s, z⟩
theorem nice_row {w : List Int} (h : RowT K H v w) (s : SmI w) : Nice K P 2 400 H v := ⟨_, dq_dT h, sm_dT s⟩
theorem sm_app {n b : Nat} {ds es : List PyData} (h1 : ∀ d ∈ ds, Sm n b d) (h2 : ∀ d ∈ es, Sm n b d) : ∀ d ∈ ds ++ es, Sm n b d := fun d h => (List.mem_append.mp h).elim (h1 d) (h2 d)
/-- ints, such a value, ints -/
theorem nice_mid {p : Addr} {a c : List Int} {one : V} (h : SqT K H p (a.map V.int ++ [one] ++ c.map V.int)) (h1 : Nice K P 1 6 H one) (ha : SmI a) (hc : SmI c) : Nice K P 2 400 H (.ref p) := by
  obtain ⟨d, hd, sd⟩ := h1
  refine ⟨.tuple (a.map .int ++ [d] ++ c.map .int), .tup h (dqA_app (dqA_app (dqA_ints a) (.cons hd .nil)) (dqA_ints c)), ?_⟩
  have h0 : ∀ z ∈ a.map PyData.int ++ [d] ++ c.map PyData.int, Sm 1 6 z := sm_app (sm_app (fun z hz => (sm_ints ha.2 z hz).mono (by decide) (by decide)) (fun z hz => by rw [List.mem_singleton.mp hz]; exact sd)) (fun z hz => (sm_ints hc.2 z hz).mono (by decide) (by decide))
  refine (sm_tuple h0).mono (Nat.le_refl _) ?_
  rw [List.length_append, List.length_append, List.length_map, List.length_map]
  show 3 + (a.length + 1 + c.length) * 8 ≤ 400
  have := ha.1
  have := hc.1
  omega
/-- a list of such values, as data -/
theorem nice_all : ∀ {vs : List V}, (∀ v ∈ vs, Nice K P n b H v) → ∃ ds, DqA K P H vs ds ∧ ds.length = vs.length ∧ ∀ d ∈ ds, Sm n b d
  | [], _ => ⟨[], .nil, rfl, fun d h => by simp at h⟩
  | v :: vs, h => by
    obtain ⟨d, h1, h2⟩ := h v (by simp)
    obtain ⟨ds, h3, h4, h5⟩ := nice_all (vs := vs) fun x hx => h x (by simp [hx])
    refine ⟨d :: ds, .cons h1 h3, by rw [List.length_cons, List.length_cons, h4], fun z hz => ?_⟩
    rcases List.mem_cons.mp hz with e | e
    · rw [e]; exact h2
    · exact h5 z e
theorem nice_lst {a : Addr} {vs : List V} (p : P a) (e : H a = some (.lst vs)) (h : ∀ v ∈ vs, Nice K P n b H v) : Nice K P (n + 1) (3 + vs.length * (b + 2)) H (.ref a) := by
  obtain ⟨ds, h1, h2, h3⟩ := nice_all h
  refine ⟨.list ds, .lst p e h1, ?_⟩
  rw [← h2]
  exact sm_list h3
theorem nice_tup {a : Addr} {vs : List V} (e : SqT K H a vs) (h : ∀ v ∈ vs, Nice K P n b H v) : Nice K P (n + 1) (3 + vs.length * (b + 2)) H (.ref a) := by
  obtain ⟨ds, h1, h2, h3⟩ := nice_all h
  refine ⟨.tuple ds, .tup e h1, ?_⟩
  rw [← h2]
  exact sm_tuple h3
end
theorem SmI.sub {w v : List Int} (h : SmI w) (hl : v.length ≤ w.length) (hm : ∀ x ∈ v, x ∈ w) : SmI v := ⟨Nat.le_trans hl h.1, fun x hx => h.2 x (hm x hx)⟩
theorem cut_ints (w : List Int) (lo hi : Option Int) : ∃ v : List Int, cutV (w.map V.int) lo hi = v.map V.int ∧ v.length ≤ w.length ∧ ∀ x ∈ v, x ∈ w := by
  unfold cutV
  rw [List.length_map]
  refine ⟨(w.drop (HT.sIx w.length 0 lo)).take (HT.sIx w.length w.length hi - HT.sIx w.length 0 lo), by rw [List.map_take, List.map_drop], ?_, fun x hx => List.mem_of_mem_drop (List.mem_of_mem_take hx)⟩
  rw [List.length_take, List.length_drop]
  omega
theorem all_of {α : Type} {p : α → Prop} {xs : List α} {x : α} (h : x ∈ xs) (f : ∀ x ∈ xs, p x) : p x := f x h
end Ew
namespace Ew
open PySem PySem.Spec PyProof.Rows L2
/-! ### an own error whose __init__ calls its own base's __init__ -/
section
variable {X : Cx} {RE : Addr} {mc : Value}
theorem pe_reinit {x : Str} {e : Expr} {es : List Expr} {ta : TA} {p1 p2 pos : Pos} {pl : Sem Bool} (hg : Gl X x) (hm : X.mg x = some (.ref RE))
    (ga : PySem.W.specialIn X.K (.ref RE) "__getattribute__" = some (some (.builtin "type.__getattribute__"))) (rd : PySem.W.readsIn X.K RE mc = true) (fc : PySem.W.findCls X.K (.ref RE) mc "__init__" = some (.val (.builtin "ValueError.__init__")))
    (ha : PA X (e :: es) ta)
    (hdb : (x == ("__debug__" : Str)) = false := by decide)
    (hev : eval (.Call (.Attribute (.Name x p1) "__init__" p2) (e :: es) [] pos) X.env = (do
      let ov ← eval (.Name x p1) X.env
      standAt p2.atName
      let __x ← holding [ov] (getMethod ov "__init__" pl)
      match __x with
        | (f, first) => callWith pos f first (backTo pos (starEach (e :: es) X.env)) (backToKw pos (keywordEach [] X.env))) := by rfl)
    (he : starEach (e :: es) X.env = (false, eval e X.env) :: starEach es X.env := by rfl) (hpl : (backTo pos (starEach es X.env)).any (·.1) = false := by rfl) :
    PE X (.Call (.Attribute (.Name x p1) "__init__" p2) (e :: es) [] pos) (tVeI X.K ta) := by
  refine ⟨fun pins s σ H Q I h => PySem.W.methodCall_KW (ld_glob I hg hm ?_ hdb) hev⟩
  obtain ⟨m, hF⟩ := I.fr
  refine PySem.W.method_of_cls hF I.ok.mod.kin ga (PySem.W.cls_value I.kIn rd fc (by rfl) ?_)
  refine callWith_method1 (thn (ha.run pos pins _ σ H _ (I.tok (s.toks + 1)) h) fun uu s1 ⟨vs, H1, I1, r, q⟩ => ?_) he hpl
  obtain ⟨a, C, ws, rfl, hl, T, ho, q⟩ := q
  cases r with
  | cons r1 r2 =>
    cases r1
    refine oinit_ok T I1 ho ?_ fun s' I' => ⟨.non, H1, I', rfl, q⟩
    rw [← r2.length, sizeLine_eq]
    omega
end
theorem CX_mono {P : Program} {w : World} {outer : List Env} {H : Hp} {s : Shared} {E E' : XK} {u : Value} {s' : Shared} (h : L2.CX P w outer H s E u s') (m : ∀ c d H, E c d H → E' c d H) : L2.CX P w outer H s E' u s' := by
  obtain ⟨a, B, H', cls, d, h1, h2, h3, h4, h5, h6, h7, h8⟩ := h
  exact ⟨a, B, H', cls, d, h1, h2, h3, h4, h5, h6, h7, m _ _ _ h8⟩
/-- what the try takes, of a call whose way out is told for all states of n slots -/
theorem passes_all {X : Cx} {W : WX} {n : Nat} (tk : Takes X W) (hn : X.N.length = n) : Passes (L2.CX X.prog X.w) X fun cls d H => ∀ σ, σ.length = n → W cls d σ H := fun pins σ H s e s' I h =>
  passAt tk σ pins H s e s' I (CX_mono h fun _ _ _ q => q σ (I.len.trans hn))
end Ew
namespace Ew
open PySem PySem.Spec PyProof.Rows L2
/-! ### xs[a:c] = ys, c perhaps behind the end -/
theorem bnd {a c n : Nat} (h : a ≤ c) (h2 : a ≤ n) : sliceBounds (some (a : Int)) (some (c : Int)) none n = ((a : Int), ((min c n : Nat) : Int), 1) := by
  have ea : max 0 (min (if (a : Int) < 0 then (a : Int) + n else a) (n : Int)) = (a : Int) := by
    rw [if_neg (by omega)]; omega
  have ec : max 0 (min (if (c : Int) < 0 then (c : Int) + n else c) (n : Int)) = ((min c n : Nat) : Int) := by
    rw [if_neg (by omega)]; omega
  show (max 0 (min (if (a : Int) < 0 then (a : Int) + n else a) (n : Int)), max 0 (min (if (c : Int) < 0 then (c : Int) + n else c) (n : Int)), (1 : Int)) = _
  rw [ea, ec]
section
variable {prog : Program} {w : World} {A : Around} {E : Value → Shared → Prop} {s : Shared}
theorem setItem_sliceC {l b sl : Addr} {items new : Array Value} {n n2 : Nat} {vl vu : Value} {a c : Nat} {Q : Unit → Shared → Prop} (e : s.heap.get? l = some { cls := .type "list", data := .seq items n }) (e2 : s.heap.get? b = some { cls := .type "list", data := .seq new n2 }) (hne : l ≠ b)
    (hs : s.heap.IsSliceOf sl vl vu .none) (pl : IsPart vl (some (a : Int))) (pu : IsPart vu (some (c : Int))) (hac : a ≤ c) (ha : a ≤ items.size) (hsz : items.size + new.size ≤ sizeLine)
    (h : Q () { s with heap := s.heap.update l (Obj.mapSeq fun xs => xs.extract 0 a ++ new ++ xs.extract (min c items.size)) }) : wpAny (model prog w) A (setItem (.ref l) (.ref sl) (.ref b)) Q E s := by
  have hl : s.heap.IsList l items := ⟨_, e, rfl, _, rfl⟩
  obtain ⟨os, hos, hcs, hds⟩ := id hs
  have hTs : s.TypeIs (.ref sl) "slice" := ⟨os, hos, hcs⟩
  have hTb : s.TypeIs (.ref b) "list" := ⟨_, e2, rfl⟩
  unfold setItem
  refine wpAny_holding (wpAny_bind (wpAny_sequenceKey hl.typeIs (by decide) (wpAny_bind (wpAny_callSpecial?_slot hl.typeIs slot_list_setitem (wpAny_call_entry slot_list_setitem hl.typeIs entry_list_setitem ?_ (F.args_list_setitem_3 _ _ _))))))
  show wpAny _ _ (Builtin.«list.__setitem__» ⟨[.ref l, .ref sl, .ref b], []⟩) _ _ _
  unfold Builtin.«list.__setitem__»
  refine wpAny_bind (m := Builtin.List.listBlankSlotArgs "__setitem__" 2 ⟨[.ref l, .ref sl, .ref b], []⟩) (wpAny_pure ?_)
  refine wpAny_bind (m := Builtin.List.listSubscript? (.ref sl)) ?_
  unfold Builtin.List.listSubscript?
  refine wpAny_bind (wpAny_specialOf hTs slice_no_index ?_)
  rw [if_pos (by rfl)]
  refine wpAny_pure ?_
  dsimp only
  refine wpAny_bind (wpAny_typeOf hTs ?_)
  rw [if_neg (by decide)]
  refine wpAny_bind (m := Builtin.List.listSliceParts (.ref sl)) ?_
  unfold Builtin.List.listSliceParts
  refine wpAny_bind (wpAny_field hos hds rfl ?_)
  refine wpAny_bind (m := listPart .none) (wpAny_listPart .none ?_)
  rw [if_neg (by decide)]
  refine wpAny_bind (wpAny_field hos hds rfl (wpAny_bind (m := listPart vl) (wpAny_listPart pl (wpAny_bind (wpAny_field hos hds rfl (wpAny_bind (m := listPart vu) (wpAny_listPart pu (wpAny_pure ?_))))))))
  dsimp only
  rw [if_neg (by show ¬ (Builtin.List.listSameRef (.ref l) (.ref b)) = true; unfold Builtin.List.listSameRef; simpa using hne)]
  refine wpAny_bind (m := Builtin.List.listAllItems (.ref b) _) ?_
  unfold Builtin.List.listAllItems
  refine wpAny_bind (wpAny_typeOf hTb ?_)
  rw [if_pos (by decide)]
  unfold Builtin.List.listItems
  refine wpAny_bind (wpAny_seqItems e2 rfl (wpAny_pure ?_))
  refine wpAny_bind (m := do let __do_lift ← seqItems? (.ref l); match __do_lift with | some xs => pure xs | none => unsupported "internal:list-without-items") (wpAny_bind (wpAny_seqItems e rfl (wpAny_pure ?_)))
  refine wpAny_bind (wpAny_of_eq (sliceIndices_raw (some (a : Int)) (some (c : Int)) none items.size (by decide)) ?_)
  rw [bnd hac ha]
  dsimp only
  rw [if_pos (by decide)]
  refine wpAny_bind (wpAny_rule ?_)
  rw [if_neg (by unfold Builtin.List.listTooLong; simp; exact hsz)]
  refine wpAny_bind (m := Builtin.List.listUpdate (.ref l) _) ?_
  show wpAny _ _ (updateSeq l _) _ _ _
  refine wpAny_updateSeq e rfl ?_ (by omega) ?_
  · refine wpAny_bind (wpAny_letGo (wpAny_pure ⟨_, rfl, wpAny_pure ?_⟩))
    rw [show (max (a : Int) ((min c items.size : Nat) : Int)).toNat = min c items.size from by omega, Int.toNat_natCast]
    exact h
  · simp only [Array.size_append, Array.size_extract]
    omega
end
theorem drop_min {α : Type} (xs : List α) (c : Nat) : xs.drop (min c xs.length) = xs.drop c := by
  rcases Nat.le_total c xs.length with h | h
  · rw [Nat.min_eq_left h]
  · rw [Nat.min_eq_right h, List.drop_of_length_le (Nat.le_refl _), List.drop_of_length_le h]
def gSlcC (to : TE) (tl th : TO) : TG := fun v σ H Q => to σ H fun x H1 => tl σ H1 fun lo H2 => th σ H2 fun hi H3 => ∃ (a b : Addr) (xs ys : List V) (i c : Nat), x = .ref a ∧ v = .ref b ∧ lo = some (i : Int) ∧ hi = some (c : Int) ∧ H3 a = some (.lst xs) ∧ H3 b = some (.lst ys) ∧ a ≠ b ∧ i ≤ c ∧ i ≤ xs.length ∧ xs.length + ys.length ≤ sizeLine ∧ Q σ (upd H3 a (.lst (xs.take i ++ ys ++ xs.drop c)))
section
variable {X : Cx} {o : Expr} {to : TE} {lo hi : Option Expr} {tl th : TO} {pos p2 : Pos}
theorem pg_slcC (ho : PE X o to) (hl : PO X lo tl) (hh : PO X hi th)
    (ha : ∀ v : Value, assign (o.Subscript (.Slice lo hi none p2) pos) X.env v = (do
      let ov ← holding [v] (eval o X.env)
      let iv ← holding [v, ov] (eval (.Slice lo hi none p2) X.env)
      standAt pos
      holding [v, ov, iv] (setItem ov iv v)
      release [iv, v, ov] []) := by intro _; rfl) : PG X (o.Subscript (.Slice lo hi none p2) pos) (gSlcC to tl th) := by
  refine ⟨fun pins s σ H v u Q I r h => ?_⟩
  rw [ha u]
  refine wpAny_bind (wpAny_holding (thn (ho.run pins s σ H _ I h) fun ov s1 ⟨x, H1, I1, r1, q1⟩ => wpAny_bind (wpAny_holding (wpAny_Slice (thn (hl.run pins s1 σ H1 _ I1 q1) fun vl s2 ⟨l, H2, I2, pl, q2⟩ => thn (hh.run pins s2 σ H2 _ I2 q2) fun vu s3 ⟨z, H3, I3, pu, q3⟩ => ?_)))))
  rw [evalPart_none X.env]
  refine wpAny_pure (wpAny_bind (wpAny_standAt (wpAny_bind (wpAny_holding ?_))))
  obtain ⟨a, b, xs, ys, i, c, rfl, rfl, rfl, rfl, hA, hB, nab, ic, cl, hz, q⟩ := q3
  cases (show ov = Value.ref a from r1)
  cases (show u = Value.ref b from r)
  have I4 := I3.kept (t' := s3.toks) (h' := s3.heap.push { cls := .type "slice", data := .fields #[vl, vu, .none] }) fun b ob q => Heap.get?_push_of_some _ q
  obtain ⟨_, its, n, va, la, ea⟩ := I4.lstM hA
  obtain ⟨_, its2, n2, vb, lb, eb⟩ := I4.lstM hB
  refine setItem_sliceC ea eb nab (Heap.IsSliceOf.new s3.heap _ _ _) pl pu ic (by rw [List.size_toArray, ← la]; exact cl) (by rw [List.size_toArray, List.size_toArray, ← la, ← lb]; exact hz) (wpAny_release ?_)
  refine ⟨σ, _, I4.lset (its' := its.take i ++ its2 ++ its.drop c) (ys := xs.take i ++ ys ++ xs.drop c) (t' := s3.toks) hA ea ?_ (Vals.append (Vals.append (Vals.take i va) vb) (Vals.drop c va)) ?_, q⟩
  · rw [splice_eq, List.size_toArray, drop_min]
  · rw [List.length_append, List.length_append, List.length_take, List.length_drop]
    omega
end
end Ew
namespace Ew
open PySem PySem.Spec PyProof.Rows L2
abbrev sBB : Stmt := (inClass (top 2) 0)
abbrev sTold : Stmt := (top 27)
/-! ### what makes a book, as data -/
def amtD : PyData → Bool
  | .int i => decide (0 ≤ i) && decide (i ≤ 6)
  | _ => false
def ascD (n : Int) (d : PyData) : Bool := match rowOf d with
  | some w => ascI n (-1) w
  | none => false
def isRdD (n : Int) : PyData → Bool
  | .tuple [l, m] => amtD l && ascD n m
  | _ => false
def demOk : PyData → Bool
  | .list es => decide (1 ≤ es.length ∧ es.length ≤ 6) && es.all amtD
  | _ => false
def sizeD : PyData → Nat
  | .list es => es.length
  | _ => 0
def firstBad (n : Int) : Nat → List PyData → Option Nat
  | _, [] => none
  | k, d :: r => if isRdD n d = true then firstBad n (k + 1) r else some k
/-- what a Book of these is: none, a book; else the number of what is no reader, or none -/
def dueD (d1 d2 : PyData) : Option (Option Nat) := if demOk d1 = true then (match d2 with
  | .list es => if es.length ≤ 6 then (firstBad (sizeD d1) 0 es).map some else some none
  | _ => some none) else some none
def plV : Option Nat → V
  | none => .non
  | some k => .int (k : Int)
theorem asc_dat {K : PySem.W.Frag} {P : Addr → Prop} {H : Hp} {n : Int} : ∀ {vs : List V} {ds : List PyData} {l : Int}, DqA K P H vs ds → ascV n l vs = (match intsOf ds with | some w => ascI n l w | none => false)
  | [], [], l, _ => rfl
  | v :: vs, d :: ds, l, .cons a t => by
    cases a with
    | int i =>
      have ih := asc_dat (n := n) (l := i) t
      show (decide (l < i) && decide (i < n) && ascV n i vs) = (match (intsOf ds).map (i :: ·) with | some w => ascI n l w | none => false)
      rw [ih]
      cases intsOf ds with
      | none => exact Bool.and_false _
      | some w => rfl
    | _ => rfl
theorem amt_dat {K : PySem.W.Frag} {P : Addr → Prop} {H : Hp} {v : V} {d : PyData} (h : Dq K P H v d) : amt v = amtD d := by
  cases h <;> rfl
theorem amts_dat {K : PySem.W.Frag} {P : Addr → Prop} {H : Hp} : ∀ {vs : List V} {ds : List PyData}, DqA K P H vs ds → vs.all amt = ds.all amtD
  | [], [], _ => rfl
  | v :: vs, d :: ds, .cons a t => by rw [List.all_cons, List.all_cons, amt_dat a, amts_dat t]
theorem isRd_dat {K : PySem.W.Frag} {P : Addr → Prop} {H : Hp} {n : Int} {v : V} {d : PyData} (h : Dq K P H v d) : rdV K H n v (isRdD n d) := by
  cases h with
  | @tup a xs es q ha =>
    cases ha with
    | nil => exact .inr (.inl ⟨a, [], rfl, q, by simp, rfl⟩)
    | @cons y l ys ls hy t =>
      cases t with
      | nil => exact .inr (.inl ⟨a, _, rfl, q, by simp, rfl⟩)
      | @cons z m zs ms hz t2 =>
        cases t2 with
        | cons hx _ => exact .inr (.inl ⟨a, _, rfl, q, by simp, rfl⟩)
        | nil =>
          refine .inr (.inr ⟨a, y, z, rfl, q, ⟨_, dq_bt hy⟩, ?_⟩)
          cases hz with
          | @tup b us fs qm hm =>
            refine .inr ⟨b, us, rfl, qm, dqA_ty hm, ?_⟩
            rw [asc_dat hm, amt_dat hy]
            rfl
          | non => exact .inl ⟨_, dq_bt (P := P) .non, (by simp [tyD]), Bool.and_false _⟩
          | bl b => exact .inl ⟨_, dq_bt (P := P) (.bl b), (by simp [tyD]), Bool.and_false _⟩
          | int b => exact .inl ⟨_, dq_bt (P := P) (.int b), (by simp [tyD]), Bool.and_false _⟩
          | str b => exact .inl ⟨_, dq_bt (P := P) (.str b), (by simp [tyD]), Bool.and_false _⟩
          | lst p e a => exact .inl ⟨_, dq_bt (.lst p e a), (by simp [tyD]), Bool.and_false _⟩
          | dic e => exact .inl ⟨_, dq_bt (P := P) (.dic e), (by simp [tyD]), Bool.and_false _⟩
  | non => exact .inl ⟨_, dq_bt (P := P) .non, (by simp [tyD]), rfl⟩
  | bl b => exact .inl ⟨_, dq_bt (P := P) (.bl b), (by simp [tyD]), rfl⟩
  | int b => exact .inl ⟨_, dq_bt (P := P) (.int b), (by simp [tyD]), rfl⟩
  | str b => exact .inl ⟨_, dq_bt (P := P) (.str b), (by simp [tyD]), rfl⟩
  | lst p e a => exact .inl ⟨_, dq_bt (.lst p e a), (by simp [tyD]), rfl⟩
  | dic e => exact .inl ⟨_, dq_bt (P := P) (.dic e), (by simp [tyD]), rfl⟩
theorem firstBad_app {n : Int} : ∀ {l : List PyData} {k : Nat} {r : List PyData}, (∀ d ∈ l, isRdD n d = true) → firstBad n k (l ++ r) = firstBad n (k + l.length) r
  | [], k, r, _ => rfl
  | d :: l, k, r, h => by
    show (if isRdD n d = true then firstBad n (k + 1) (l ++ r) else some k) = _
    rw [if_pos (h d (by simp)), firstBad_app fun x hx => h x (by simp [hx]), List.length_cons]
    congr 1
    omega
/-! ### BadBook -/
def spBB (C : Addr) : Sp := fun vs H Q _ => ∃ (a : Addr) (v : V), vs = [.ref a, v] ∧ H a = some (exo a C none) ∧ ∀ dx, H dx = none → dx ≠ a → Q .non (upd (upd H dx (exd dx [(("place" : Str), v)])) a (exo a C (some dx)))
structure BBTxt (K : PySem.W.Frag) (mg : Str → Option Value) (BB RE : Addr) : Prop where
  ox : OexC K BB
  init : ∃ f fd, Fun K "__init__" "BadBook.__init__" sBB f fd ∧ Binds K fd ["self", "place"] [] ∧ PySem.W.findIn K (.ref BB) "__init__" = some (some (.ref f)) ∧ PySem.W.typeIn K (.ref f) = some (.type "function")
  gB : mg "BadBook" = some (.ref BB)
  gR : mg "ReadError" = some (.ref RE)
  rga : PySem.W.specialIn K (.ref RE) "__getattribute__" = some (some (.builtin "type.__getattribute__"))
  rrd : PySem.W.readsIn K RE (.type "type") = true
  rfc : PySem.W.findCls K (.ref RE) (.type "type") "__init__" = some (.val (.builtin "ValueError.__init__"))
  nop : PySem.W.findIn K (.ref BB) "place" = some none
  xf : XfC K BB
  te : PySem.W.exmOne K (.ref BB) (.ref BB) = some true
section
variable {P : Program} {w : World} {K : PySem.W.Frag} {mg : Str → Option Value} {base : Heap} {C BB RE : Addr}
theorem scBB : FnScope ["self", "place"] ["self", "place"] (defScope sBB) := ⟨rfl, rfl, rfl, by decide +kernel, rfl, by decide +kernel, by decide +kernel⟩
theorem ok_bb {f : Addr} {fd : FuncData} (F : Fun K "__init__" "BadBook.__init__" sBB f fd) (T : BBTxt K mg BB RE) : FnOk P w K mg base CX0 1 f fd ["self", "place"] (spBB BB) := by
  refine F.ok scBB (fun vs H Q E h => ?_) (fun cdv A outer s H vs Q E hr h => ?_)
  · obtain ⟨a, v, rfl, _⟩ := h
    rfl
  · obtain ⟨a, v, rfl, ha, q⟩ := h
    refine ⟨_, (pss_cons (ps_expr (pe_reinit (by rfl) T.gR T.rga T.rrd T.rfc (pa_cons (pv 0) (pa_cons pe_str pa_nil))))
 (pss_one (ps_ost (pv 0) (pv 1)))), ?_⟩
    refine ⟨_, rfl, a, BB, _, rfl, (by show 1 ≤ 1000; decide), T.ox, ha, ?_⟩
    refine ⟨_, rfl, _, rfl, a, BB, rfl, T.ox, T.nop, .inl ⟨ha, fun dx nx ne => ?_⟩⟩
    exact q dx nx ne
/-- raise BadBook(v) -/
theorem raised {H : Hp} {v : V} {E : XK} (h : ∀ dx Hf, Same H Hf → H dx = none → Hf dx = some (.xd [(("place" : Str), v)]) → E (.ref BB) (some dx) Hf) :
    [v].length ≤ 1000 ∧ ∀ a, H a = none → spBB BB (.ref a :: ([v] ++ [])) (upd H a (exo a BB none)) (fun u H2 => u = .non ∧ ∃ d fs, H2 a = some (exo a BB (some d)) ∧ H2 d = some (exd d fs) ∧ H d = none ∧ E (.ref BB) (some d) (upd (del H2 a) d (.xd fs))) (fun _ _ _ => False) := by
  refine ⟨by show 1 ≤ 1000; decide, fun a na => ⟨a, v, rfl, upd_same, fun dx nx ne => ⟨rfl, dx, _, upd_same, by rw [upd_ne ne, upd_same], by rw [upd_ne ne] at nx; exact nx, ?_⟩⟩⟩
  have nx' : H dx = none := by rw [upd_ne ne] at nx; exact nx
  refine h dx _ (fun b o e => ?_) nx' upd_same
  have nb : b ≠ dx := ne_of_none e nx'
  have nb2 : b ≠ a := ne_of_none e na
  rw [upd_ne nb]
  show del _ a b = some o
  unfold del
  rw [if_neg nb2, upd_ne nb2, upd_ne nb, upd_ne nb2]
  exact e
end
end Ew
namespace Ew
open PySem PySem.Spec PyProof.Rows L2
def spBkX (K : PySem.W.Frag) (C BB : Addr) : Sp := fun vs H Q E => ∃ (P1 P2 : Addr → Prop) (x dx : Addr) (v1 v2 : V) (d1 d2 : PyData), vs = [.ref x, v1, v2] ∧ H x = some (.ins C dx []) ∧ Dq K P1 H v1 d1 ∧ Dq K P2 H v2 d2 ∧ sizeD d1 ≤ 1000 ∧
  (∀ pl, dueD d1 d2 = some pl → ∀ dx' Hf, Same H Hf → H dx' = none → Hf dx' = some (.xd [(("place" : Str), plV pl)]) → E (.ref BB) (some dx') Hf) ∧
  (dueD d1 d2 = none → ∀ A R xs ys es1 es2, v1 = .ref A → v2 = .ref R → d1 = .list es1 → d2 = .list es2 → H A = some (.lst xs) → H R = some (.lst ys) → DqA K P1 H xs es1 → DqA K P2 H ys es2 →
    ∀ H' A' R', (∀ b o, b ≠ x → H b = some o → H' b = some o) → H A' = none → H R' = none → H' x = some (.ins C dx (bf A' R')) → H' A' = some (.lst xs) → H' R' = some (.lst ys) → Q .non H')
theorem due_dem {d1 d2 : PyData} (h : demOk d1 = false) : dueD d1 d2 = some none := by
  unfold dueD
  rw [if_neg (by rw [h]; decide)]
theorem due_lst {d1 : PyData} {es : List PyData} (h : demOk d1 = true) (l : es.length ≤ 6) : dueD d1 (.list es) = (firstBad (sizeD d1) 0 es).map some := by
  unfold dueD
  rw [if_pos h]
  dsimp only
  rw [if_pos l]
section
variable {P : Program} {w : World} {K : PySem.W.Frag} {mg : Str → Option Value} {base : Heap} {C BB RE : Addr}
theorem ok_bkX {f : Addr} {fd : FuncData} (F : Fun K "__init__" "Book.__init__" sBkInit f fd) (L : Vals1 K mg) (T : BookTxt K mg C) (TB : BBTxt K mg BB RE) : FnOk P w K mg base (L2.CX P w) 4 f fd ["self", "demands", "readers"] (spBkX K C BB) := by
  have L' := L
  obtain ⟨B, _, _, ⟨tr, mr⟩, _, _, _, ⟨fD, fdD, FD, bD, gD⟩, ⟨fR, fdR, FR, bR, gR⟩⟩ := L'
  obtain ⟨fB, fdB, FB, bB, iB, tB⟩ := TB.init
  have GD : FnOk P w K mg base CX0 3 fD fdD ["value"] (spAreDem K) := ok_areDem FD L
  have GR : FnOk P w K mg base CX0 3 fR fdR ["value", "many"] (spIsRd K) := ok_isRd FR L
  have GB : FnOk P w K mg base CX0 1 fB fdB ["self", "place"] (spBB BB) := ok_bb FB TB
  refine F.okX scBkInit (fun vs H Q E h => ?_) (fun cdv A outer s H vs Q E hr h => ?_)
  · obtain ⟨P1, P2, x, dx, v1, v2, d1, d2, rfl, _⟩ := h
    rfl
  · obtain ⟨P1, P2, x, dx, v1, v2, d1, d2, rfl, hx, hd1, hd2, sz, qE, qQ⟩ := h
    have hr2 := hr.mono (show 2 ≤ 3 by decide)
    refine ⟨_, (pss_cons (ps_if (PW.pt (pw_or (pt_not (pt_val (pe_call GD hr (by rfl) gD FD.kp bD .nil pass0 (pa_cons (pv 1) pa_nil))))
          (pw_or (pt_not (pt_val (pe_callB call_isi (by rfl) B.isinstance (by decide +kernel) (pa_cons (pv 2) (pa_cons (pe_bltn (v := .ty "list") (by rfl) B.list (by decide +kernel) rfl) pa_nil)))))
          (pw_or1 (pt_cmpR op_gt (pe_callB call_len_seq (by rfl) B.len PySem.boot_len (pa_cons (pv 2) pa_nil)) (pe_glob (v := .int 6) (by rfl) mr ⟨_, rfl⟩) (nomark _)))))) (pss_one (ps_raise rfl (takes_of rfl rfl rfl rfl) (pmk_oex TB.ox iB tB GB hr2 bB .nil pass0 (by rfl) TB.gB (pa_cons pe_non pa_nil)))) pss_nil)
 (pss_cons (ps_for PassesOwn.leaving rfl (pi_enum (by rfl) B.enumerate (pa_cons (pv 2) pa_nil)) (pg_tup (by rfl) (pgs_cons (pg_name (i := 3) scBkInit.nd rfl (.inl rfl)) (pgs_cons (pg_name (i := 4) scBkInit.nd rfl (.inl rfl)) pgs_nil)))
        (pss_one (ps_if (pt_not (pt_val (pe_call GR hr (by rfl) gR FR.kp bR .nil pass0 (pa_cons (pv 4) (pa_cons (pe_callB call_len_seq (by rfl) B.len PySem.boot_len (pa_cons (pv 1) pa_nil)) pa_nil))))) (pss_one (ps_raise rfl (takes_of rfl rfl rfl rfl) (pmk_oex TB.ox iB tB GB hr2 bB .nil pass0 (by rfl) TB.gB (pa_cons (pv 3) pa_nil)))) pss_nil)))
 (pss_cons (ps_fld (pv 0) (pe_callTy call_list_of (by rfl) B.list (by decide +kernel) (pa_cons (pv 1) pa_nil)) rfl)
 (pss_one (ps_fld (pv 0) (pe_callTy call_list_of (by rfl) B.list (by decide +kernel) (pa_cons (pv 2) pa_nil)) rfl))))), ?_⟩
    -- the first raise
    have no : ∀ Hx, Same H Hx → dueD d1 d2 = some none → ∀ σ, tMkO BB (spBB BB) [] (tCons (tC .non) tNil) σ Hx (fun cls d H' => E cls d H') := fun Hx sx e σ => by
      exact raised fun dx' Hf s1 n1 h1 => qE none e dx' Hf (sx.trans s1) (sx.free n1) h1
    have nolist : ∀ T, tyD d1 = T → T ≠ "list" → demOk d1 = false := fun T e n => by
      cases d1 <;> first | rfl | exact absurd e.symm n
    refine ⟨_, rfl, _, rfl, ?_⟩
    cases hd1 with
    | @lst A xs es p1 e1 ha1 =>
      have hxl := ha1.len
      refine .inr ⟨A, xs, rfl, .inl (.inl e1), bt_lst (.inl (.inl e1)), by rw [hxl]; exact sz, dqA_ty ha1, fun H1 s1 => ⟨_, rfl, ?_⟩⟩
      have hb : (decide (1 ≤ xs.length ∧ xs.length ≤ 6) && xs.all amt) = demOk (.list es) := by
        rw [amts_dat ha1, hxl]
        rfl
      rw [hb]
      cases hdm : demOk (.list es) with
      | false => exact iteT (no H1 s1 (due_dem hdm) [])
      | true =>
        refine iteF ?_
        have hsz : 1 ≤ es.length ∧ es.length ≤ 6 := of_decide_eq_true (Bool.and_eq_true_iff.mp hdm).1
        have bad2 : (∀ es2, d2 ≠ .list es2) → dueD (.list es) d2 = some none := fun hn => by
          unfold dueD
          rw [if_pos hdm]
          cases d2 <;> first | rfl | exact absurd rfl (hn _)
        have hd2' := hd2.over (over_same s1)
        obtain ⟨_, k1⟩ := isT_of (dq_bt hd2')
        refine ⟨_, rfl, v2, .ty "list", _, _, _, rfl, .ty _, dq_bt hd2', k1, _, rfl, ?_⟩
        cases hd2 with
        | @lst R ys es2 p2 e2 ha2 =>
          show (if (!decide ("list" = "list")) = true then _ else _)
          refine iteNS rfl ?_
          have hyl := ha2.len
          have eR1 := s1 _ _ e2
          have eA1 := s1 _ _ e1
          refine ⟨_, rfl, R, ys, rfl, .inl (.inl (.inl eR1)), _, _, rfl, rfl, _, rfl, ite2 (fun c => ?_) (fun c => ?_)⟩
          · have c' := of_decide_eq_true c
            refine no H1 s1 ?_ []
            unfold dueD
            rw [if_pos hdm]
            dsimp only
            rw [if_neg (by omega)]
          have c' : ¬ (6 : Int) < ((ys.length : Nat) : Int) := fun h => c (decide_eq_true h)
          have hdue := due_lst (es := es2) hdm (by omega)
          replace hdue : dueD (.list es) (.list es2) = (firstBad (es.length : Int) 0 es2).map some := hdue
          refine ⟨_, rfl, R, ys, rfl, .inl (.inl eR1), for_it (walk_enum (xs := ys)) (fun i σ H' => ∃ y3 y4, σ = [some (.ref x), some (.ref A), some (.ref R), y3, y4] ∧ Same H1 H' ∧ ∀ d ∈ es2.take i, isRdD (es.length : Int) d = true) ⟨none, none, rfl, Same.refl H1, fun d hd => by simp at hd⟩ (fun i σ H' _ ⟨_, _, _, e, _⟩ => .inl (.inl (e _ _ eR1))) ?_ ?_⟩
          · rintro i v σ H2 H3 hi ⟨y3, y4, rfl, s2, hall⟩ ⟨t, x1, x2, rfl, nt, rfl, f1, f2⟩
            obtain rfl : V.int (i : Nat) = x1 := Option.some.inj f1
            obtain ⟨e, he, hde⟩ := ha2.at1 f2
            have sT : Same H1 (upd H2 t (.tup [V.int (i : Nat), x2])) := s2.trans (sameU nt)
            refine ⟨t, _, rfl, .inl (.inl upd_same), rfl, _, _, rfl, _, _, rfl, rfl, ?_⟩
            generalize upd H2 t (.tup [V.int (i : Nat), x2]) = H4 at *
            refine ⟨_, rfl, _, rfl, A, xs, rfl, .inl (.inl (.inl (sT _ _ eA1))), x2, _, isRdD (es.length : Int) e, by rw [hxl]; rfl, isRd_dat (hde.over (over_same (s1.trans sT))), _, rfl, ?_⟩
            cases hr' : isRdD (es.length : Int) e with
            | true =>
              refine iteF ⟨_, _, rfl, sT, fun d hd => ?_⟩
              rw [take_more he] at hd
              rcases List.mem_append.mp hd with h | h
              · exact hall d h
              · rw [List.mem_singleton.mp h]; exact hr'
            | false =>
              refine iteT ⟨_, rfl, ?_⟩
              have hil := (List.getElem?_eq_some_iff.mp he).1
              have hsplit : es2 = es2.take i ++ (e :: es2.drop (i + 1)) := by
                have := List.drop_eq_getElem_cons hil
                rw [(List.getElem?_eq_some_iff.mp he).2] at this
                rw [← this, List.take_append_drop]
              have hfb : firstBad (es.length : Int) 0 es2 = some i := by
                rw [hsplit, firstBad_app hall, List.length_take]
                show (if isRdD (es.length : Int) e = true then _ else some (0 + min i es2.length)) = _
                rw [hr', if_neg Bool.false_ne_true]
                congr 1
                omega
              rw [hfb] at hdue
              exact raised fun dx' Hf s5 n1 h1 => qE (some i) hdue dx' Hf (s1.trans (sT.trans s5)) ((s1.trans sT).free n1) h1
          · rintro σ H2 ⟨y3, y4, rfl, s2, hall⟩
            rw [hyl, List.take_length] at hall
            have hfb : firstBad (es.length : Int) 0 es2 = none := by
              have := firstBad_app (n := (es.length : Int)) (k := 0) (r := []) hall
              rw [List.append_nil] at this
              rw [this]
              rfl
            rw [hfb] at hdue
            have sB := s1.trans s2
            refine ⟨_, rfl, A, _, rfl, .inl (.inl (.inl (sB _ _ e1))), fun A' nA => ?_⟩
            have nxA : x ≠ A' := ne_of_none (sB _ _ hx) nA
            have sA : Same H (upd H2 A' (.lst xs)) := sB.trans (sameU nA)
            refine ⟨_, rfl, x, C, dx, _, rfl, sA _ _ hx, T.cl, T.nD, by show 0 < 1000; decide, ?_⟩
            have st : ∀ b o, b ≠ x → H b = some o → upd (upd H2 A' (.lst xs)) x (.ins C dx (putF "_demands" (.ref A') [])) b = some o := fun b o nb e => by
              rw [upd_ne nb]; exact sA _ _ e
            have hR2 : upd (upd H2 A' (.lst xs)) x (.ins C dx (putF "_demands" (.ref A') [])) R = some (.lst ys) := st _ _ (fun e => by rw [e, hx] at e2; cases e2) e2
            refine ⟨_, rfl, R, _, rfl, .inl (.inl (.inl hR2)), fun R' nR => ?_⟩
            have nxR : x ≠ R' := fun e => by rw [← e, upd_same] at nR; cases nR
            have nR1 : upd H2 A' (.lst xs) R' = none := by rw [upd_ne nxR.symm] at nR; exact nR
            have nAR : A' ≠ R' := fun e => by rw [← e, upd_same] at nR1; cases nR1
            refine ⟨_, rfl, x, C, dx, putF "_demands" (.ref A') [], rfl, ?_, T.cl, T.nR, (by show 1 < 1000; decide), ?_⟩
            · rw [upd_ne nxR, upd_same]
            refine qQ hdue A R xs ys es es2 rfl rfl rfl rfl e1 e2 ha1 ha2 _ A' R' (fun b o nb e => ?_) (sB.free nA) (sA.free nR1) upd_same ?_ ?_
            · rw [upd_ne nb]
              have nbR : b ≠ R' := ne_of_none (sA _ _ e) nR1
              rw [upd_ne nbR]
              exact st _ _ nb e
            · rw [upd_ne nxA.symm, upd_ne nAR, upd_ne nxA.symm, upd_same]
            · rw [upd_ne nxR.symm, upd_same]
        | non => exact no H1 s1 (bad2 fun _ e => by cases e) []
        | bl b => exact no H1 s1 (bad2 fun _ e => by cases e) []
        | int b => exact no H1 s1 (bad2 fun _ e => by cases e) []
        | str b => exact no H1 s1 (bad2 fun _ e => by cases e) []
        | tup _ _ => exact no H1 s1 (bad2 fun _ e => by cases e) []
        | dic e => exact no H1 s1 (bad2 fun _ e => by cases e) []
    | non => exact .inl ⟨_, dq_bt (P := P1) .non, (by simp [tyD]), _, rfl, iteT (no H (Same.refl H) (due_dem rfl) [])⟩
    | bl b => exact .inl ⟨_, dq_bt (P := P1) (.bl b), (by simp [tyD]), _, rfl, iteT (no H (Same.refl H) (due_dem rfl) [])⟩
    | int b => exact .inl ⟨_, dq_bt (P := P1) (.int b), (by simp [tyD]), _, rfl, iteT (no H (Same.refl H) (due_dem rfl) [])⟩
    | str b => exact .inl ⟨_, dq_bt (P := P1) (.str b), (by simp [tyD]), _, rfl, iteT (no H (Same.refl H) (due_dem rfl) [])⟩
    | tup q a => exact .inl ⟨_, dq_bt (.tup q a), (by simp [tyD]), _, rfl, iteT (no H (Same.refl H) (due_dem rfl) [])⟩
    | dic e => exact .inl ⟨_, dq_bt (P := P1) (.dic e), (by simp [tyD]), _, rfl, iteT (no H (Same.refl H) (due_dem rfl) [])⟩
end
end Ew
namespace Ew
open PySem PySem.Spec PyProof.Rows L2
def spTold (K : PySem.W.Frag) (C : Addr) : Sp := fun vs H Q _ => ∃ (P1 P2 : Addr → Prop) (v1 v2 : V) (d1 d2 : PyData), vs = [v1, v2] ∧ Dq K P1 H v1 d1 ∧ Dq K P2 H v2 d2 ∧ sizeD d1 ≤ 1000 ∧
  (∀ pl, dueD d1 d2 = some pl → ∀ H', Same H H' → Q (plV pl) H') ∧
  (dueD d1 d2 = none → ∀ A R xs ys es1 es2, v1 = .ref A → v2 = .ref R → d1 = .list es1 → d2 = .list es2 → H A = some (.lst xs) → H R = some (.lst ys) → DqA K P1 H xs es1 → DqA K P2 H ys es2 →
    ∀ H' x dx A' R', Same H H' → H x = none → H A' = none → H R' = none → H' x = some (.ins C dx (bf A' R')) → H' A' = some (.lst xs) → H' R' = some (.lst ys) → Q (.ref x) H')
section
variable {P : Program} {w : World} {K : PySem.W.Frag} {mg : Str → Option Value} {base : Heap} {C BB RE : Addr}
theorem scTold : FnScope ["demands", "readers", "error"] ["demands", "readers"] (defScope sTold) := ⟨rfl, rfl, rfl, by decide +kernel, rfl, by decide +kernel, by decide +kernel⟩
theorem ok_told {f : Addr} {fd : FuncData} (F : Fun K "_law_told_so" "_law_told_so" sTold f fd) (L : Vals1 K mg) (T : BookTxt K mg C) (TB : BBTxt K mg BB RE) : FnOk P w K mg base CX0 6 f fd ["demands", "readers"] (spTold K C) := by
  obtain ⟨fI, fdI, FI, bI, mk⟩ := T.init
  have GI : FnOk P w K mg base (L2.CX P w) 4 fI fdI ["self", "demands", "readers"] (spBkX K C BB) := ok_bkX FI L T TB
  refine F.ok scTold (fun vs H Q E h => ?_) (fun cdv A outer s H vs Q E hr h => ?_)
  · obtain ⟨P1, P2, v1, v2, d1, d2, rfl, _⟩ := h
    rfl
  · obtain ⟨P1, P2, v1, v2, d1, d2, rfl, hd1, hd2, sz, qE, qQ⟩ := h
    refine ⟨_, pss_one (ps_try_as (i := 2) (tb := fun W => tRet (tMake C (spBkX K C BB) [] (fun cls d H => ∀ σ : L2.St, List.length σ = 3 → W cls d σ H) (tCons (tVar 0) (tCons (tVar 1) tNil)))) (ts := fun a cls d => tRet (tXf a cls d BB "place" (tVar 2))) (Wout := fun _ _ _ _ => False) rfl rfl scTold.nd rfl rfl ⟨rfl, by decide, .inl TB.gB⟩ takes0
      (fun W pn xe tk _ => pss_one (ps_ret (pe_make mk GI hr (by rfl) T.mgC bI .nil (passes_all tk rfl) (pa_cons (pv 0) (pa_cons (pv 1) pa_nil)))))
      (fun a oe cls d pn hz hf => pss_one (ps_ret (pe_xf TB.xf TB.nop hz hf (pv 2))))), ?_⟩
    refine ⟨_, rfl, _, rfl, fun x dx nx ndx nex => ?_⟩
    have s0 : Same H (upd (upd H dx (.own x)) x (.ins C dx [])) := fun b o e => by
      rw [upd_ne (ne_of_none e nx), upd_ne (ne_of_none e ndx)]
      exact e
    refine ⟨P1, P2, x, dx, v1, v2, d1, d2, rfl, upd_same, hd1.over (over_same s0), hd2.over (over_same s0), sz, fun pl hpl dx' Hf sf nf hf σ hσ => ?_, fun hdue A R xs ys es1 es2 e1 e2 e3 e4 hA hR ha hb H' A' R' keep nA nR hx hA' hR' => ⟨rfl, ?_⟩⟩
    · refine ⟨true, TB.te, fun _ a na => ?_, fun q => Bool.noConfusion q⟩
      refine ⟨.ref a, ?_, rfl, rfl, dx', _, plV pl, rfl, hf, ?_, qE pl hpl Hf (s0.trans sf)⟩
      · simp [hσ]
      · simp [List.lookup]
    · subst e1
      subst e2
      subst e3
      subst e4
      -- what stands in the heap ahead
      cases hd1 with
      | @lst _ xs0 _ p1 f1 g1 =>
        cases hd2 with
        | @lst _ ys0 _ p2 f2 g2 =>
          have q1 := s0 _ _ f1
          have q2 := s0 _ _ f2
          rw [hA] at q1
          rw [hR] at q2
          cases q1
          cases q2
          have sH : Same H H' := fun b o e => keep b o (ne_of_none e nx) (s0 b o e)
          exact qQ hdue A R xs ys es1 es2 rfl rfl rfl rfl f1 f2 g1 g2 H' x dx A' R' sH nx (s0.free nA) (s0.free nR) hx hA' hR'
end
end Ew
namespace Ew
open PySem PySem.Spec PyProof.Rows L2
abbrev sNum : Stmt := (top 22)
abbrev sLRd : Stmt := (top 23)
abbrev sDue : Stmt := (top 24)
/-! ### data of short lists and tuples -/
mutual
def lenOk : PyData → Bool
  | .list es => decide (es.length ≤ 30) && lenOkA es
  | .tuple es => decide (es.length ≤ 30) && lenOkA es
  | _ => true
def lenOkA : List PyData → Bool
  | [] => true
  | d :: r => lenOk d && lenOkA r
end
theorem lenOkA_mem : ∀ {l : List PyData}, lenOkA l = true → ∀ d ∈ l, lenOk d = true
  | [], _, d, h => by simp at h
  | x :: l, h, d, hd => by
    have h' : lenOk x = true ∧ lenOkA l = true := Bool.and_eq_true_iff.mp h
    rcases List.mem_cons.mp hd with e | e
    · rw [e]; exact h'.1
    · exact lenOkA_mem h'.2 d e
theorem lenOkA_of : ∀ {l : List PyData}, (∀ d ∈ l, lenOk d = true) → lenOkA l = true
  | [], _ => rfl
  | x :: l, h => by
    show (lenOk x && lenOkA l) = true
    rw [h x (by simp), lenOkA_of fun d hd => h d (by simp [hd])]
    rfl
def numD (lo hi : Int) : PyData → Bool
  | .int i => decide (lo ≤ i) && decide (i ≤ hi)
  | _ => false
theorem num_amt (d : PyData) : numD 0 6 d = amtD d := by cases d <;> rfl
/-- ints from 0 to n - 1, ascending -/
theorem asc_num {n : Int} {ds : List PyData} : ascD n (.tuple ds) = (ds.all (numD 0 (n - 1)) && (match intsOf ds with | some w => decide (w.Pairwise (· < ·)) | none => false)) := by
  unfold ascD
  show (match intsOf ds with | some w => ascI n (-1) w | none => false) = _
  cases he : intsOf ds with
  | none => rw [Bool.and_false]
  | some w =>
    have e : ds = w.map .int := by
      clear n
      induction ds generalizing w with
      | nil => cases he; rfl
      | cons d ds ih =>
        cases d with
        | int i =>
          have he' : (intsOf ds).map (i :: ·) = some w := he
          cases h2 : intsOf ds with
          | none => rw [h2] at he'; cases he'
          | some w' =>
            rw [h2] at he'
            cases he'
            rw [ih w' h2]
            rfl
        | _ => cases he
    rw [e]
    show ascI n (-1) w = ((w.map PyData.int).all (numD 0 (n - 1)) && decide (w.Pairwise (· < ·)))
    rw [Bool.eq_iff_iff, ascI_iff, Bool.and_eq_true, List.all_map, List.all_eq_true, decide_eq_true_eq]
    constructor
    · rintro ⟨h1, h2⟩
      refine ⟨fun x hx => ?_, h1⟩
      have := h2 x hx
      show (decide (0 ≤ x) && decide (x ≤ n - 1)) = true
      rw [decide_eq_true (by omega), decide_eq_true (by omega)]
      rfl
    · rintro ⟨h1, h2⟩
      refine ⟨h2, fun x hx => ?_⟩
      have h3 : (decide (0 ≤ x) && decide (x ≤ n - 1)) = true := h1 x hx
      have h4 := Bool.and_eq_true_iff.mp h3
      have h5 := of_decide_eq_true h4.1
      have h6 := of_decide_eq_true h4.2
      omega
theorem nums_ints {lo hi : Int} : ∀ {ds : List PyData}, ds.all (numD lo hi) = true → ∃ w, intsOf ds = some w
  | [], _ => ⟨[], rfl⟩
  | d :: ds, h => by
    have h' : numD lo hi d = true ∧ ds.all (numD lo hi) = true := Bool.and_eq_true_iff.mp h
    obtain ⟨w, hw⟩ := nums_ints h'.2
    cases d with
    | int i => exact ⟨i :: w, by show (intsOf ds).map (i :: ·) = _; rw [hw]; rfl⟩
    | _ => cases h'.1
def spNum (K : PySem.W.Frag) : Sp := fun vs H Q _ => ∃ (P : Addr → Prop) (v : V) (d : PyData) (lo hi : Int), vs = [v, .int lo, .int hi] ∧ Dq K P H v d ∧ Q (.bl (numD lo hi d)) H
def spLRd (K : PySem.W.Frag) : Sp := fun vs H Q _ => ∃ (P : Addr → Prop) (v : V) (d : PyData) (n : Int), vs = [v, .int n] ∧ Dq K P H v d ∧ lenOk d = true ∧ ∀ H', Same H H' → Q (.bl (isRdD n d)) H'
def dueV : Option (Option Nat) → V
  | none => .str "book"
  | some pl => plV pl
def spDue (K : PySem.W.Frag) : Sp := fun vs H Q _ => ∃ (P1 P2 : Addr → Prop) (v1 v2 : V) (d1 d2 : PyData), vs = [v1, v2] ∧ Dq K P1 H v1 d1 ∧ Dq K P2 H v2 d2 ∧ lenOk d1 = true ∧ lenOk d2 = true ∧ ∀ H', Same H H' → Q (dueV (dueD d1 d2)) H'
section
variable {P : Program} {w : World} {K : PySem.W.Frag} {mg : Str → Option Value} {base : Heap} {C : Addr}
theorem scNum : FnScope ["value", "least", "greatest"] ["value", "least", "greatest"] (defScope sNum) := ⟨rfl, rfl, rfl, by decide +kernel, rfl, by decide +kernel, by decide +kernel⟩
theorem ok_num {f : Addr} {fd : FuncData} (F : Fun K "_law_is_number" "_law_is_number" sNum f fd) (B : Bi mg) : FnOk P w K mg base CX0 1 f fd ["value", "least", "greatest"] (spNum K) := by
  refine F.ok scNum (fun vs H Q E h => ?_) (fun cdv A outer s H vs Q E hr h => ?_)
  · obtain ⟨P', v, d, lo, hi, rfl, _⟩ := h
    rfl
  · obtain ⟨P', v, d, lo, hi, rfl, hd, q⟩ := h
    refine ⟨_, (pss_cons (ps_if (PW.pt (pw_or (pt_not (pt_val (pe_callB call_isi (by rfl) B.isinstance (by decide +kernel) (pa_cons (pv 0) (pa_cons (pe_bltn (v := .ty "int") (by rfl) B.int (by decide +kernel) rfl) pa_nil)))))
              (pw_or1 (pt_val (pe_callB call_isi (by rfl) B.isinstance (by decide +kernel) (pa_cons (pv 0) (pa_cons (pe_bltn (v := .ty "bool") (by rfl) B.bool (by decide +kernel) rfl) pa_nil))))))) (pss_one (ps_ret pe_bl)) pss_nil)
 (pss_one (ps_ret (pe_chain op_le op_le (pv 1) (pv 0) (pv 2))))), ?_⟩
    obtain ⟨m1, m2, m3⟩ := isI_of (dq_bt hd)
    refine ⟨_, rfl, v, .ty "int", _, _, _, rfl, .ty _, dq_bt hd, m1, _, rfl, ?_⟩
    cases hd with
    | int i =>
      refine iteF ⟨_, rfl, _, .ty "bool", _, _, _, rfl, .ty _, dq_bt (P := P') (.int i), m2, _, rfl, iteF ?_⟩
      refine ⟨_, rfl, _, rfl, _, _, rfl, rfl, _, rfl, ite2 (fun c => ?_) (fun c => ?_)⟩
      · refine ⟨_, rfl, _, _, rfl, rfl, ?_⟩
        have : numD lo hi (.int i) = decide (i ≤ hi) := by show (_ && _) = _; rw [c]; rfl
        rw [this] at q
        exact q
      · have : numD lo hi (.int i) = false := by show (_ && _) = _; rw [Bool.eq_false_iff.mpr c]; rfl
        rw [this] at q
        exact q
    | bl b => exact iteF ⟨_, rfl, _, .ty "bool", _, _, _, rfl, .ty _, dq_bt (P := P') (.bl b), m2, _, rfl, iteT q⟩
    | non => exact iteT q
    | str b => exact iteT q
    | lst p e a => exact iteT q
    | tup e a => exact iteT q
    | dic e => exact iteT q
theorem scLRd : FnScope ["value", "works", "one"] ["value", "works"] (defScope sLRd) := ⟨rfl, rfl, rfl, by decide +kernel, rfl, by decide +kernel, by decide +kernel⟩
theorem ok_lRd {f fN : Addr} {fd fdN : FuncData} (F : Fun K "_law_is_reader" "_law_is_reader" sLRd f fd) (B : Bi mg) (Bs : mg "set" = none) (FN : Fun K "_law_is_number" "_law_is_number" sNum fN fdN) (bN : Binds K fdN ["value", "least", "greatest"] []) (gN : mg "_law_is_number" = some (.ref fN)) :
    FnOk P w K mg base CX0 2 f fd ["value", "works"] (spLRd K) := by
  have GN : FnOk P w K mg base CX0 1 fN fdN ["value", "least", "greatest"] (spNum K) := ok_num FN B
  refine F.ok scLRd (fun vs H Q E h => ?_) (fun cdv A outer s H vs Q E hr h => ?_)
  · obtain ⟨P', v, d, n, rfl, _⟩ := h
    rfl
  · obtain ⟨P', v, d, n, rfl, hd, lo, q⟩ := h
    refine ⟨_, (pss_cons (ps_if (PW.pt (pw_or (pt_not (pt_val (pe_callB call_isi (by rfl) B.isinstance (by decide +kernel) (pa_cons (pv 0) (pa_cons (pe_bltn (v := .ty "tuple") (by rfl) B.tuple (by decide +kernel) rfl) pa_nil)))))
          (pw_or (pt_cmpR op_ne (pe_callB call_len_seq (by rfl) B.len PySem.boot_len (pa_cons (pv 0) pa_nil)) pe_int (nomark _))
          (pw_or1 (pt_not (pt_val (pe_call GN hr (by rfl) gN FN.kp bN .nil pass0 (pa_cons (pe_ix ix_tup (pv 0) pe_int (fun _ _ => rfl)) (pa_cons pe_int (pa_cons pe_int pa_nil))))))))))
        (pss_one (ps_ret pe_bl)) pss_nil)
 (pss_cons (ps_if (pt_not (pt_val (pe_callB call_isi (by rfl) B.isinstance (by decide +kernel) (pa_cons (pe_ix ix_tup (pv 0) pe_int (fun _ _ => rfl)) (pa_cons (pe_bltn (v := .ty "tuple") (by rfl) B.tuple (by decide +kernel) rfl) pa_nil))))) (pss_one (ps_ret pe_bl)) pss_nil)
 (pss_cons (ps_if (pt_cmpR (op_neNil (Nat.lt_of_le_of_lt (Nat.le_add_right _ 64) hr.units))
          (pe_lc (own := [("one", 2)]) (g := gName 2) (tt := tNot (tTest (tCall (spNum K) [] E0 (tCons (tVar 2) (tCons (tC (.int 0)) (tCons (tOp (rI0 fun i j => V.int (i - j)) (tVar 1) (tC (.int 1))) tNil)))))) (te := tVar 2) rfl scLRd.nd (pi_tup (pe_ix ix_tup (pv 0) pe_int (fun _ _ => rfl))) (blkOk_by (own := [("one", 2)]) (N := ["value", "works", "one"]) (sc := defScope sLRd) (by decide +kernel))
            (fun _ _ _ _ _ => pg_name (i := 2) scLRd.nd rfl (.inl rfl))
            (fun _ _ _ _ _ => pts_one (pt_not (pt_val (pe_call GN hr (by rfl) gN FN.kp bN .nil pass0 (pa_cons (pv 2) (pa_cons pe_int (pa_cons (pe_op op_sub (pv 1) pe_int) pa_nil)))))))
            (fun _ _ _ _ _ => pv 2)) (pe_lst pa_nil) (nomark _)) (pss_one (ps_ret pe_bl)) pss_nil)
 (pss_one (ps_ret (pe_cmpR (op_eqD hr.units) (pe_callTy call_list_of (by rfl) B.list (by decide +kernel) (pa_cons (pe_ix ix_tup (pv 0) pe_int (fun _ _ => rfl)) pa_nil))
        (pe_callB (cr_sortedSet rfl) (by rfl) B.sorted (by decide +kernel) (pa_cons (pe_callTy (cr_setOfI rfl) (by rfl) Bs (by decide +kernel) (pa_cons (pe_ix ix_tup (pv 0) pe_int (fun _ _ => rfl)) pa_nil)) pa_nil)) (nomark _))))))), ?_⟩
    obtain ⟨k1, _⟩ := isT_of (dq_bt hd)
    refine ⟨_, rfl, v, .ty "tuple", _, _, _, rfl, .ty _, dq_bt hd, k1, _, rfl, ?_⟩
    cases hd with
    | @tup a xs es hS ha =>
      show (if (!decide ("tuple" = "tuple")) = true then _ else _)
      refine iteNS rfl ?_
      have hxl := ha.len
      refine ⟨_, rfl, a, xs, rfl, .inr hS, rfl, _, rfl, ?_⟩
      by_cases el : xs.length = 2
      · have e1 : decide (V.int ((xs.length : Nat) : Int) = V.int 2) = true := decide_eq_true (by rw [el]; rfl)
        rw [e1]
        refine iteF ?_
        cases ha with
        | nil => cases el
        | @cons y l ys ls hy t =>
          cases t with
          | nil => cases el
          | @cons z m zs ms hz t2 =>
            cases t2 with
            | cons _ _ => simp at el
            | nil =>
              have eR : isRdD n (.tuple [l, m]) = (amtD l && ascD n m) := rfl
              rw [eR] at q
              refine ⟨_, rfl, a, _, 0, y, rfl, rfl, hS, rfl, P', y, l, 0, 6, rfl, hy, _, rfl, ?_⟩
              rw [num_amt]
              cases hA : amtD l with
              | false =>
                rw [hA] at q
                exact iteT (q H (Same.refl H))
              | true =>
                rw [hA, Bool.true_and] at q
                refine iteF ?_
                obtain ⟨k2, _⟩ := isT_of (dq_bt hz)
                refine ⟨_, rfl, a, _, 1, z, rfl, rfl, hS, rfl, z, .ty "tuple", _, _, _, rfl, .ty _, dq_bt hz, k2, _, rfl, ?_⟩
                cases hz with
                | @tup b us fs hM hm =>
                  show (if (!decide ("tuple" = "tuple")) = true then _ else _)
                  refine iteNS rfl ?_
                  have hl30 : fs.length ≤ 30 := by
                    have h0 : (decide (([l, .tuple fs] : List PyData).length ≤ 30) && lenOkA [l, .tuple fs]) = true := lo
                    have h1 : lenOkA [l, .tuple fs] = true := (Bool.and_eq_true_iff.mp h0).2
                    have h2 := lenOkA_mem h1 (.tuple fs) (by simp)
                    have h3 : (decide (fs.length ≤ 30) && lenOkA fs) = true := h2
                    exact of_decide_eq_true (Bool.and_eq_true_iff.mp h3).1
                  have hul := hm.len
                  rw [asc_num] at q
                  refine ⟨_, rfl, a, _, 1, .ref b, rfl, rfl, hS, rfl, b, rfl, ⟨_, hM⟩, fun D nD => ?_⟩
                  refine lc_tup (K := K) (a := b) (xs := us) (fun i H' => Same H H' ∧ ∃ acc : List V, H' D = some (.lst acc) ∧ acc.length ≤ i ∧ acc.isEmpty = (fs.take i).all (numD 0 (n - 1))) ⟨sameU nD, [], upd_same, Nat.le_refl _, rfl⟩ (fun i H' _ ⟨e, _⟩ => sameT e hM) ?_ ?_
                  · rintro i u H1 hu ⟨s1, acc, hD, al, ae⟩
                    have hil := (List.getElem?_eq_some_iff.mp hu).1
                    obtain ⟨d', hd', hdd⟩ := hm.at1 hu
                    refine ⟨rfl, _, rfl, _, rfl, _, _, rfl, rfl, P', u, d', 0, n - 1, rfl, hdd.over (over_same s1), _, rfl, ?_⟩
                    have tz := take_more hd'
                    cases hb : numD 0 (n - 1) d' with
                    | true =>
                      refine iteF ⟨s1, acc, hD, by omega, ?_⟩
                      rw [tz, List.all_append, List.all_cons, hb, ae]
                      simp
                    | false =>
                      refine iteT ⟨u, rfl, acc, hD, szl (by omega), same_own s1 nD, acc ++ [u], upd_same, by rw [List.length_append]; show acc.length + 1 ≤ i + 1; omega, ?_⟩
                      rw [tz, List.all_append, List.all_cons, hb]
                      simp
                  · rintro H1 ⟨s1, acc, hD, al, ae⟩
                    rw [hul, List.take_length] at ae
                    refine ⟨Nat.zero_le _, fun e ne => ?_⟩
                    have se : Same H1 (upd H1 e (.lst [])) := sameU ne
                    refine ⟨D, e, acc, rfl, rfl, .inl (.inl (se _ _ hD)), .inl (.inl upd_same), _, rfl, ?_⟩
                    rw [if_pos rfl, ae]
                    have sB := s1.trans se
                    generalize upd H1 e (.lst []) = H4 at *
                    cases hg : fs.all (numD 0 (n - 1)) with
                    | false =>
                      rw [hg, Bool.false_and] at q
                      exact iteT (q H4 sB)
                    | true =>
                      rw [hg, Bool.true_and] at q
                      refine iteF ?_
                      obtain ⟨w', hw'⟩ := nums_ints hg
                      obtain ⟨f1, f2⟩ := ints_of hm hw'
                      subst f1
                      rw [hw'] at q
                      rw [List.length_map] at hul
                      have hM4 := sameT sB hM
                      refine ⟨_, rfl, a, _, 1, .ref b, rfl, rfl, sameT sB hS, rfl, b, _, rfl, .inr hM4, fun l' nl => ?_⟩
                      have s5 : Same H4 (upd H4 l' (.lst (w'.map V.int))) := sameU nl
                      have zl : upd H4 l' (.lst (w'.map V.int)) l' = some (.lst (w'.map V.int)) := upd_same
                      generalize upd H4 l' (.lst (w'.map V.int)) = H5 at *
                      refine ⟨_, rfl, a, _, 1, .ref b, rfl, rfl, sameT (sB.trans s5) hS, rfl, b, w', rfl, sameT (sB.trans s5) hM, by omega, fun st cc nst hcc => ?_⟩
                      have s6 : Same H5 (upd H5 st (SetO w st (fun j => decide (j ∈ w')) cc)) := sameU nst
                      refine ⟨st, _, cc, rfl, upd_same, by omega, fun ns p hp1 hp2 hp3 np => ?_⟩
                      have s7 := s6.trans (sameU (o := .lst (ns.map V.int)) np)
                      refine ⟨dI w', dI ns, dp_dI (.inl (.inl (s7 _ _ zl))), dp_dI (.inl (.inl upd_same)), shp_dI _, shp_dI _, ?_⟩
                      rw [eqv_dI, sorted_self hp1 (fun k => by rw [hp2]; exact decide_eq_true_iff)]
                      exact q _ (sB.trans (s5.trans s7))
                | non => exact iteT (by rw [show ascD n .none = false from rfl] at q; exact q H (Same.refl H))
                | bl b => exact iteT (by rw [show ascD n (.bool b) = false from rfl] at q; exact q H (Same.refl H))
                | int b => exact iteT (by rw [show ascD n (.int b) = false from rfl] at q; exact q H (Same.refl H))
                | str b => exact iteT (by rw [show ascD n (.str b) = false from rfl] at q; exact q H (Same.refl H))
                | @lst _ _ ds _ _ _ => exact iteT (by rw [show ascD n (.list ds) = false from rfl] at q; exact q H (Same.refl H))
                | dic e => exact iteT (by rw [show ascD n (.dict []) = false from rfl] at q; exact q H (Same.refl H))
      · have e1 : decide (V.int ((xs.length : Nat) : Int) = V.int 2) = false := decide_eq_false fun h => el (by have := V.int.inj h; omega)
        rw [e1]
        refine iteT ?_
        have : isRdD n (.tuple es) = false := by
          match es, hxl with
          | [], _ => rfl
          | [_], _ => rfl
          | [_, _], h => exact absurd (by simpa using h) el
          | _ :: _ :: _ :: _, _ => rfl
        rw [this] at q
        exact q H (Same.refl H)
    | non => exact q H (Same.refl H)
    | bl b => exact q H (Same.refl H)
    | int b => exact q H (Same.refl H)
    | str b => exact q H (Same.refl H)
    | lst p e a => exact q H (Same.refl H)
    | dic e => exact q H (Same.refl H)
end
end Ew
namespace Ew
open PySem PySem.Spec PyProof.Rows L2
theorem firstBad_snoc {n : Int} {d : PyData} : ∀ {l : List PyData} {k : Nat}, firstBad n k (l ++ [d]) = (match firstBad n k l with
  | some j => some j
  | none => if isRdD n d = true then none else some (k + l.length))
  | [], k => rfl
  | x :: l, k => by
    have ih := firstBad_snoc (n := n) (d := d) (l := l) (k := k + 1)
    show (if isRdD n x = true then firstBad n (k + 1) (l ++ [d]) else some k) = (match (if isRdD n x = true then firstBad n (k + 1) l else some k) with
      | some j => some j
      | none => if isRdD n d = true then none else some (k + (l.length + 1)))
    cases hx : isRdD n x with
    | true =>
      rw [if_pos rfl, if_pos rfl, ih]
      have : k + 1 + l.length = k + (l.length + 1) := by omega
      rw [this]
    | false => rfl
section
variable {P : Program} {w : World} {K : PySem.W.Frag} {mg : Str → Option Value} {base : Heap} {C : Addr}
theorem due_six {d1 : PyData} {es : List PyData} (h : demOk d1 = true) (l : ¬ es.length ≤ 6) : dueD d1 (.list es) = some none := by
  unfold dueD
  rw [if_pos h]
  dsimp only
  rw [if_neg l]
theorem due_no {d1 d2 : PyData} (h : demOk d1 = true) (n : ∀ es, d2 ≠ .list es) : dueD d1 d2 = some none := by
  unfold dueD
  rw [if_pos h]
  cases d2 <;> first | rfl | exact absurd rfl (n _)
theorem amts_num (es : List PyData) : es.all (numD 0 6) = es.all amtD := by
  rw [show numD 0 6 = amtD from funext num_amt]
theorem scDue : FnScope ["demands", "readers", "odd", "one", "at"] ["demands", "readers"] (defScope sDue) := ⟨rfl, rfl, rfl, by decide +kernel, rfl, by decide +kernel, by decide +kernel⟩
theorem ok_due {f fN fR : Addr} {fd fdN fdR : FuncData} (F : Fun K "_law_due" "_law_due" sDue f fd) (B : Bi mg) (Bs : mg "set" = none) (FN : Fun K "_law_is_number" "_law_is_number" sNum fN fdN) (bN : Binds K fdN ["value", "least", "greatest"] []) (gN : mg "_law_is_number" = some (.ref fN))
    (FR : Fun K "_law_is_reader" "_law_is_reader" sLRd fR fdR) (bR : Binds K fdR ["value", "works"] []) (gR : mg "_law_is_reader" = some (.ref fR)) : FnOk P w K mg base CX0 3 f fd ["demands", "readers"] (spDue K) := by
  have GN : FnOk P w K mg base CX0 1 fN fdN ["value", "least", "greatest"] (spNum K) := ok_num FN B
  have GR : FnOk P w K mg base CX0 2 fR fdR ["value", "works"] (spLRd K) := ok_lRd FR B Bs FN bN gN
  refine F.ok scDue (fun vs H Q E h => ?_) (fun cdv A outer s H vs Q E hr h => ?_)
  · obtain ⟨P1, P2, v1, v2, d1, d2, rfl, _⟩ := h
    rfl
  · obtain ⟨P1, P2, v1, v2, d1, d2, rfl, hd1, hd2, lo1, lo2, q⟩ := h
    have hr1 := hr.mono (show 1 ≤ 2 by decide)
    refine ⟨_, (pss_cons (ps_if (PW.pt (pw_or (pt_not (pt_val (pe_callB call_isi (by rfl) B.isinstance (by decide +kernel) (pa_cons (pv 0) (pa_cons (pe_bltn (v := .ty "list") (by rfl) B.list (by decide +kernel) rfl) pa_nil)))))
          (pw_or1 (pt_not (pt_chain op_le op_le pe_int (pe_callB call_len_seq (by rfl) B.len PySem.boot_len (pa_cons (pv 0) pa_nil)) pe_int))))) (pss_one (ps_ret pe_non)) pss_nil)
 (pss_cons (ps_if (pt_cmpR (op_neNil (Nat.lt_of_le_of_lt (Nat.le_add_right _ 64) hr.units))
          (pe_lc (own := [("one", 3)]) (g := gName 3) (tt := tNot (tTest (tCall (spNum K) [] E0 (tCons (tVar 3) (tCons (tC (.int 0)) (tCons (tC (.int 6)) tNil)))))) (te := tVar 3) rfl scDue.nd (pi_list (pv 0)) (blkOk_by (own := [("one", 3)]) (N := ["demands", "readers", "odd", "one", "at"]) (sc := defScope sDue) (by decide +kernel))
            (fun _ _ _ _ _ => pg_name (i := 3) scDue.nd rfl (.inl rfl)) (fun _ _ _ _ _ => pts_one (pt_not (pt_val (pe_call GN hr1 (by rfl) gN FN.kp bN .nil pass0 (pa_cons (pv 3) (pa_cons pe_int (pa_cons pe_int pa_nil)))))))
            (fun _ _ _ _ _ => pv 3)) (pe_lst pa_nil) (nomark _)) (pss_one (ps_ret pe_non)) pss_nil)
 (pss_cons (ps_if (PW.pt (pw_or (pt_not (pt_val (pe_callB call_isi (by rfl) B.isinstance (by decide +kernel) (pa_cons (pv 1) (pa_cons (pe_bltn (v := .ty "list") (by rfl) B.list (by decide +kernel) rfl) pa_nil)))))
          (pw_or1 (pt_cmpR op_gt (pe_callB call_len_seq (by rfl) B.len PySem.boot_len (pa_cons (pv 1) pa_nil)) pe_int (nomark _))))) (pss_one (ps_ret pe_non)) pss_nil)
 (pss_cons (ps_setLc (i := 2) (own := [("at", 4), ("one", 3)]) (g := gTup K 2 (gCons (gName 4) (gCons (gName 3) gNil))) (tt := tNot (tTest (tCall (spLRd K) [] E0 (tCons (tVar 3) (tCons (tCB (fun xs H Q => ∃ p ys, xs = [V.ref p] ∧ (SqL K H p ys ∨ SqT K H p ys) ∧ Q (.int ys.length) H) (tCons (tVar 0) tNil)) tNil))))) (te := tVar 4) rfl scDue.nd rfl rfl rfl (pi_enum (by rfl) B.enumerate (pa_cons (pv 1) pa_nil))
          (blkOk_by (own := [("at", 4), ("one", 3)]) (N := ["demands", "readers", "odd", "one", "at"]) (sc := defScope sDue) (by decide +kernel))
          (fun _ _ _ _ _ => pg_tup (by rfl) (pgs_cons (pg_name (i := 4) scDue.nd rfl (.inl rfl)) (pgs_cons (pg_name (i := 3) scDue.nd rfl (.inl rfl)) pgs_nil)))
          (fun _ _ _ _ _ => pts_one (pt_not (pt_val (pe_call GR hr (by rfl) gR FR.kp bR .nil pass0 (pa_cons (pv 3) (pa_cons (pe_callB call_len_seq (by rfl) B.len PySem.boot_len (pa_cons (pv 0) pa_nil)) pa_nil)))))) (fun _ _ _ _ _ => pv 4))
 (pss_one (ps_ret (pe_ifExp (pt_cmpR (op_neNil (Nat.lt_of_le_of_lt (Nat.le_add_right _ 64) hr.units)) (pv 2) (pe_lst pa_nil) (nomark _)) (pe_ix ix_list (pv 2) pe_int (fun _ _ => rfl)) pe_str))))))), ?_⟩
    have dn : demOk d1 = false → ∀ H', Same H H' → Q .non H' := fun h H' s => by
      have := q H' s
      rw [due_dem h] at this
      exact this
    obtain ⟨_, k1⟩ := isT_of (dq_bt hd1)
    refine ⟨_, rfl, v1, .ty "list", _, _, _, rfl, .ty _, dq_bt hd1, k1, _, rfl, ?_⟩
    cases hd1 with
    | @lst A xs es p1 e1 ha1 =>
      show (if (!decide ("list" = "list")) = true then _ else _)
      refine iteNS rfl ?_
      have hxl := ha1.len
      have hl30 : es.length ≤ 30 := by
        have h0 : (decide (es.length ≤ 30) && lenOkA es) = true := lo1
        exact of_decide_eq_true (Bool.and_eq_true_iff.mp h0).1
      have dd : demOk (.list es) = (decide (1 ≤ es.length ∧ es.length ≤ 6) && es.all amtD) := rfl
      -- 1 <= len <= 6
      refine ⟨_, rfl, A, xs, rfl, .inl (.inl (.inl e1)), _, _, rfl, rfl, _, rfl, ?_⟩
      rw [hxl]
      refine ite2 (fun c1 => ?_) (fun c1 => ?_)
      · refine ⟨_, _, rfl, rfl, _, rfl, ?_⟩
        show (if (!decide (((es.length : Nat) : Int) ≤ 6)) = true then _ else _)
        have c1' := of_decide_eq_true c1
        by_cases c2 : ((es.length : Nat) : Int) ≤ 6
        · rw [decide_eq_true c2]
          refine iteF ?_
          refine ⟨_, rfl, A, rfl, ⟨_, .inl (.inl e1)⟩, fun D nD => ?_⟩
          refine lc_list (K := K) (a := A) (xs := xs) (fun i H' => Same H H' ∧ ∃ acc : List V, H' D = some (.lst acc) ∧ acc.length ≤ i ∧ acc.isEmpty = (es.take i).all (numD 0 6)) ⟨sameU nD, [], upd_same, Nat.le_refl _, rfl⟩ (fun i H' _ ⟨e, _⟩ => .inl (.inl (e _ _ e1))) ?_ ?_
          · rintro i u H1 hu ⟨s1, acc, hD, al, ae⟩
            have hil := (List.getElem?_eq_some_iff.mp hu).1
            obtain ⟨d', hd', hdd⟩ := ha1.at1 hu
            refine ⟨rfl, _, rfl, P1, u, d', 0, 6, rfl, hdd.over (over_same s1), _, rfl, ?_⟩
            have tz := take_more hd'
            cases hb : numD 0 6 d' with
            | true =>
              refine iteF ⟨s1, acc, hD, by omega, ?_⟩
              rw [tz, List.all_append, List.all_cons, hb, ae]
              simp
            | false =>
              refine iteT ⟨u, rfl, acc, hD, szl (by omega), same_own s1 nD, acc ++ [u], upd_same, by rw [List.length_append]; show acc.length + 1 ≤ i + 1; omega, ?_⟩
              rw [tz, List.all_append, List.all_cons, hb]
              simp
          · rintro H1 ⟨s1, acc, hD, al, ae⟩
            rw [hxl, List.take_length, amts_num] at ae
            refine ⟨Nat.zero_le _, fun e ne => ?_⟩
            have se : Same H1 (upd H1 e (.lst [])) := sameU ne
            refine ⟨D, e, acc, rfl, rfl, .inl (.inl (se _ _ hD)), .inl (.inl upd_same), _, rfl, ?_⟩
            rw [if_pos rfl, ae]
            have sB := s1.trans se
            generalize upd H1 e (.lst []) = H2 at *
            cases hg : es.all amtD with
            | false => exact iteT (dn (by rw [dd, hg, Bool.and_false]) H2 sB)
            | true =>
              refine iteF ?_
              have hdm : demOk (.list es) = true := by rw [dd, hg, decide_eq_true (by omega)]; rfl
              have hd2' := hd2.over (over_same sB)
              obtain ⟨_, k2⟩ := isT_of (dq_bt hd2')
              refine ⟨_, rfl, v2, .ty "list", _, _, _, rfl, .ty _, dq_bt hd2', k2, _, rfl, ?_⟩
              cases hd2 with
              | @lst R ys es2 p2 e2 ha2 =>
                show (if (!decide ("list" = "list")) = true then _ else _)
                refine iteNS rfl ?_
                have hyl := ha2.len
                have eR := sB _ _ e2
                have eA := sB _ _ e1
                have h0 : (decide (es2.length ≤ 30) && lenOkA es2) = true := lo2
                refine ⟨_, rfl, R, ys, rfl, .inl (.inl (.inl eR)), _, _, rfl, rfl, _, rfl, ite2 (fun c => ?_) (fun c => ?_)⟩
                · have c' := of_decide_eq_true c
                  have := q H2 sB
                  rw [due_six hdm (by omega)] at this
                  exact this
                have c' : ¬ (6 : Int) < ((ys.length : Nat) : Int) := fun h => c (decide_eq_true h)
                have hdue := due_lst (es := es2) hdm (by omega)
                replace hdue : dueD (.list es) (.list es2) = (firstBad (es.length : Int) 0 es2).map some := hdue
                rw [hdue] at q
                refine ⟨_, rfl, R, ys, rfl, .inl (.inl eR), fun L nL => ?_⟩
                refine lc_it (walk_enum (xs := ys)) (fun i H' => Same H2 H' ∧ ∃ acc : List Int, H' L = some (.lst (acc.map V.int)) ∧ acc.length ≤ i ∧ acc.head? = (firstBad (es.length : Int) 0 (es2.take i)).map fun k => (k : Int)) ⟨sameU nL, [], upd_same, Nat.le_refl _, rfl⟩ (fun i H' _ ⟨e, _⟩ => .inl (.inl (e _ _ eR))) ?_ ?_
                · rintro i u H3 H4 hi ⟨s3, acc, hL, al, ah⟩ ⟨t, x1, x2, rfl, nt, rfl, f1, f2⟩
                  obtain rfl : V.int (i : Nat) = x1 := Option.some.inj f1
                  obtain ⟨e', he', hde⟩ := ha2.at1 f2
                  have sT : Same H2 (upd H3 t (.tup [V.int (i : Nat), x2])) := s3.trans (sameU nt)
                  have hL' := sameU (o := .tup [V.int (i : Nat), x2]) nt _ _ hL
                  refine ⟨t, _, rfl, .inl (.inl upd_same), rfl, _, _, rfl, _, _, rfl, rfl, rfl, ?_⟩
                  generalize upd H3 t (.tup [V.int (i : Nat), x2]) = H5 at *
                  have tz := take_more he'
                  have hil := (List.getElem?_eq_some_iff.mp he').1
                  have hmi : min i es2.length = i := by omega
                  refine ⟨_, rfl, _, rfl, A, xs, rfl, .inl (.inl (.inl (sT _ _ eA))), P2, x2, e', (es.length : Int), by rw [hxl]; rfl, hde.over (over_same (sB.trans sT)), lenOkA_mem (Bool.and_eq_true_iff.mp h0).2 e' (List.mem_of_getElem? he'), fun H6 s6 => ⟨_, rfl, ?_⟩⟩
                  have hL6 := s6 _ _ hL'
                  cases hb : isRdD (es.length : Int) e' with
                  | true =>
                    refine iteF ⟨sT.trans s6, acc, hL6, by omega, ?_⟩
                    rw [ah, tz, firstBad_snoc, hb]
                    cases firstBad (es.length : Int) 0 (es2.take i) <;> rfl
                  | false =>
                    refine iteT ⟨_, rfl, _, hL6, szl (by rw [List.length_map]; omega), same_own (sT.trans s6) nL, acc ++ [(i : Int)], by rw [upd_same, List.map_append]; rfl, by rw [List.length_append]; show acc.length + 1 ≤ i + 1; omega, ?_⟩
                    rw [tz, firstBad_snoc, hb, List.length_take, hmi]
                    cases hf : firstBad (es.length : Int) 0 (es2.take i) with
                    | none =>
                      rw [hf] at ah
                      cases acc with
                      | nil => show some (i : Int) = some (((0 + i : Nat)) : Int); rw [Nat.zero_add]
                      | cons _ _ => cases ah
                    | some j =>
                      rw [hf] at ah
                      cases acc with
                      | nil => cases ah
                      | cons z zs => exact ah
                · rintro H3 ⟨s3, acc, hL, al, ah⟩
                  rw [hyl, List.take_length] at ah
                  have sC := sB.trans s3
                  refine ⟨_, rfl, Nat.zero_le _, fun e5 ne5 => ?_⟩
                  have se5 : Same H3 (upd H3 e5 (.lst [])) := sameU ne5
                  refine ⟨L, e5, _, rfl, rfl, .inl (.inl (se5 _ _ hL)), .inl (.inl upd_same), _, rfl, ?_⟩
                  rw [if_pos rfl]
                  have qq := q _ (sC.trans se5)
                  cases acc with
                  | nil =>
                    refine iteF ?_
                    cases hf : firstBad (es.length : Int) 0 es2 with
                    | none => rw [hf] at qq; exact qq
                    | some j => rw [hf] at ah; cases ah
                  | cons z zs =>
                    refine iteT ⟨_, rfl, L, _, 0, .int z, rfl, rfl, .inl (.inl (se5 _ _ hL)), atI_nat (j := 0) rfl, ?_⟩
                    cases hf : firstBad (es.length : Int) 0 es2 with
                    | none => rw [hf] at ah; cases ah
                    | some j =>
                      rw [hf] at ah qq
                      cases ah
                      exact qq
              | non => exact iteT (by have := q H2 sB; rw [due_no hdm (fun _ h => by cases h)] at this; exact this)
              | bl b => exact iteT (by have := q H2 sB; rw [due_no hdm (fun _ h => by cases h)] at this; exact this)
              | int b => exact iteT (by have := q H2 sB; rw [due_no hdm (fun _ h => by cases h)] at this; exact this)
              | str b => exact iteT (by have := q H2 sB; rw [due_no hdm (fun _ h => by cases h)] at this; exact this)
              | tup _ _ => exact iteT (by have := q H2 sB; rw [due_no hdm (fun _ h => by cases h)] at this; exact this)
              | dic e => exact iteT (by have := q H2 sB; rw [due_no hdm (fun _ h => by cases h)] at this; exact this)
        · rw [decide_eq_false c2]
          exact iteT (dn (by rw [dd, decide_eq_false (by omega)]; rfl) H (Same.refl H))
      · have c1' : ¬ (1 : Int) ≤ ((es.length : Nat) : Int) := fun h => c1 (decide_eq_true h)
        exact ⟨_, rfl, iteT (dn (by rw [dd, decide_eq_false (by omega)]; rfl) H (Same.refl H))⟩
    | non => exact iteT (dn rfl H (Same.refl H))
    | bl b => exact iteT (dn rfl H (Same.refl H))
    | int b => exact iteT (dn rfl H (Same.refl H))
    | str b => exact iteT (dn rfl H (Same.refl H))
    | tup _ _ => exact iteT (dn rfl H (Same.refl H))
    | dic e => exact iteT (dn rfl H (Same.refl H))
end
end Ew
namespace Ew
open PySem PySem.Spec PyProof.Rows L2
abbrev sOdd : Stmt := (top 25)
/-! ### small data of short lists -/
theorem dig_of {i : Int} (h0 : 0 ≤ i) (h1 : i < 10) : Dig i := ⟨h0, h1⟩
def Nic (K : PySem.W.Frag) (P : Addr → Prop) (n b : Nat) (H : Hp) (v : V) : Prop := ∃ d, Dq K P H v d ∧ Sm n b d ∧ lenOk d = true
section
variable {K : PySem.W.Frag} {P : Addr → Prop} {n b : Nat} {H H' : Hp} {v : V}
theorem Nic.over (s : Over P H H') (h : Nic K P n b H v) : Nic K P n b H' v := let ⟨d, h1, h2, h3⟩ := h; ⟨d, h1.over s, h2, h3⟩
theorem Nic.mono {m c : Nat} (h : Nic K P n b H v) (h1 : n ≤ m) (h2 : b ≤ c) : Nic K P m c H v := let ⟨d, a, z, y⟩ := h; ⟨d, a, z.mono h1 h2, y⟩
theorem Nic.imp {P' : Addr → Prop} (s : ∀ a xs, H a = some (.lst xs) → P a → P' a) (h : Nic K P n b H v) : Nic K P' n b H v := let ⟨d, a, z, y⟩ := h; ⟨d, a.imp s, z, y⟩
theorem nic_all : ∀ {vs : List V}, (∀ v ∈ vs, Nic K P n b H v) → ∃ ds, DqA K P H vs ds ∧ ds.length = vs.length ∧ (∀ d ∈ ds, Sm n b d) ∧ lenOkA ds = true
  | [], _ => ⟨[], .nil, rfl, fun d h => by simp at h, rfl⟩
  | v :: vs, h => by
    obtain ⟨d, h1, h2, h2'⟩ := h v (by simp)
    obtain ⟨ds, h3, h4, h5, h6⟩ := nic_all (vs := vs) fun x hx => h x (by simp [hx])
    refine ⟨d :: ds, .cons h1 h3, by rw [List.length_cons, List.length_cons, h4], fun z hz => ?_, ?_⟩
    · rcases List.mem_cons.mp hz with e | e
      · rw [e]; exact h2
      · exact h5 z e
    · show (lenOk d && lenOkA ds) = true
      rw [h2', h6]
      rfl
theorem nic_lst {a : Addr} {vs : List V} (p : P a) (e : H a = some (.lst vs)) (l : vs.length ≤ 30) (h : ∀ v ∈ vs, Nic K P n b H v) : Nic K P (n + 1) (3 + vs.length * (b + 2)) H (.ref a) := by
  obtain ⟨ds, h1, h2, h3, h4⟩ := nic_all h
  refine ⟨.list ds, .lst p e h1, ?_, ?_⟩
  · rw [← h2]
    exact sm_list h3
  · show (decide (ds.length ≤ 30) && lenOkA ds) = true
    rw [h4, decide_eq_true (by omega)]
    rfl
theorem nic_tup {a : Addr} {vs : List V} (e : SqT K H a vs) (l : vs.length ≤ 30) (h : ∀ v ∈ vs, Nic K P n b H v) : Nic K P (n + 1) (3 + vs.length * (b + 2)) H (.ref a) := by
  obtain ⟨ds, h1, h2, h3, h4⟩ := nic_all h
  refine ⟨.tuple ds, .tup e h1, ?_, ?_⟩
  · rw [← h2]
    exact sm_tuple h3
  · show (decide (ds.length ≤ 30) && lenOkA ds) = true
    rw [h4, decide_eq_true (by omega)]
    rfl
theorem nic_dig {i : Int} (h : Dig i) : Nic K P 0 1 H (.int i) := ⟨_, .int i, sm_dig h, rfl⟩
theorem nic_ints {w : List Int} (h : ∀ x ∈ w, Dig x) : ∀ v ∈ w.map V.int, Nic K P 0 1 H v := by
  intro v hv
  obtain ⟨x, hx, rfl⟩ := List.mem_map.mp hv
  exact nic_dig (h x hx)
theorem nic_row {w : List Int} (h : RowT K H v w) (s : SmI w) : Nic K P 2 400 H v := by
  obtain ⟨t, rfl, q⟩ := h
  have := s.1
  exact (nic_tup q (by rw [List.length_map]; omega) (nic_ints s.2)).mono (by decide) (by rw [List.length_map]; omega)
theorem nic_big : Nic K P 0 21 H (.int ((10 : Int) ^ (20 : Int).toNat)) := ⟨_, .int _, ⟨by decide +kernel, Nat.zero_le _, by decide +kernel⟩, rfl⟩
theorem nic_neg : Nic K P 0 2 H (.int (-1)) := ⟨_, .int _, sm_neg, rfl⟩
theorem nic_non : Nic K P 0 4 H .non := ⟨_, .non, sm_non, rfl⟩
theorem nic_bl (c : Bool) : Nic K P 0 5 H (.bl c) := ⟨_, .bl c, sm_bl c, rfl⟩
theorem nic_mid {p : Addr} {a c : List Int} {one : V} (h : SqT K H p (a.map V.int ++ [one] ++ c.map V.int)) (h1 : Nic K P 1 21 H one) (ha : a.length ≤ 6 ∧ ∀ x ∈ a, Dig x) (hc : c.length ≤ 6 ∧ ∀ x ∈ c, Dig x) : Nic K P 2 400 H (.ref p) := by
  have e : (a.map V.int ++ [one] ++ c.map V.int).length = a.length + 1 + c.length := by rw [List.length_append, List.length_append, List.length_map, List.length_map]; rfl
  refine (nic_tup (n := 1) (b := 21) h (by rw [e]; omega) fun v hv => ?_).mono (Nat.le_refl _) (by rw [e]; omega)
  rcases List.mem_append.mp hv with h | h
  · rcases List.mem_append.mp h with h | h
    · exact (nic_ints ha.2 v h).mono (by decide) (by decide)
    · rw [List.mem_singleton.mp h]; exact h1
  · exact (nic_ints hc.2 v h).mono (by decide) (by decide)
end
def spOdd (K : PySem.W.Frag) : Sp := fun vs H Q _ => ∃ (f : Addr) (v : V) (r : Int × List Int) (n : Int), vs = [.ref f, v, .int n] ∧ FeedAt H f ∧ RdT K H v r ∧ RdOk n r ∧ 1 ≤ n ∧ n ≤ 6 ∧
  ∀ H' u, Ext1 f H H' → Nic K (fun p => H p = none) 3 1300 H' u → Q u H'
section
variable {P : Program} {w : World} {K : PySem.W.Frag} {mg : Str → Option Value} {base : Heap} {C : Addr}
theorem scOdd : FnScope ["feed", "reader", "works", "limit", "may", "one", "at", "rows", "limits", "some"] ["feed", "reader", "works"] (defScope sOdd) := ⟨rfl, rfl, rfl, by decide +kernel, rfl, by decide +kernel, by decide +kernel⟩
theorem ok_odd {f : Addr} {fd : FuncData} (F : Fun K "_law_odd" "_law_odd" sOdd f fd) (L : Low K mg) : FnOk P w K mg base CX0 3 f fd ["feed", "reader", "works"] (spOdd K) := by
  obtain ⟨B, _, ⟨fT, fdT, FT, bT, gT⟩, ⟨fP, fdP, FP, bP, gP⟩, _⟩ := L
  have GT : FnOk P w K mg base CX0 1 fT fdT ["feed", "many"] spTake := ok_take FT B
  have GP : FnOk P w K mg base CX0 2 fP fdP ["feed", "some"] (spPick K) := ok_pick FP FT bT gT B
  refine F.ok scOdd (fun vs H Q E h => ?_) (fun cdv A outer s H vs Q E hr h => ?_)
  · obtain ⟨f, v, r, n, rfl, _⟩ := h
    rfl
  · obtain ⟨f, v, ⟨lim, mw⟩, n, rfl, hF, ⟨t, m, rfl, hT, hM⟩, ok, n1, n6, q⟩ := h
    have hr1 := hr.mono (show 1 ≤ 2 by decide)
    refine ⟨_, (pss_cons (ps_asg (pv 1) (pg_tup (by rfl) (pgs_cons (pg_name (i := 3) scOdd.nd rfl (.inl rfl)) (pgs_cons (pg_name (i := 4) scOdd.nd rfl (.inl rfl)) pgs_nil))))
 (pss_cons (ps_set (i := 5) scOdd.nd rfl (.inl rfl) (pe_call GP hr (by rfl) gP FP.kp bP .nil pass0 (pa_cons (pv 0) (pa_cons (pe_lst (pa_cons pe_non (pa_cons pe_bl (pa_cons pe_bl (pa_cons (pe_un un_neg pe_int) (pa_cons (pv 2) (pa_cons pe_str (pa_cons (pe_lst pa_nil) (pa_cons pe_dnewK (pa_cons (pe_op op_pow pe_int pe_int) (pa_cons pe_int pa_nil))))))))))) pa_nil))))
 (pss_cons (ps_set (i := 6) scOdd.nd rfl (.inl rfl) (pe_call GT hr1 (by rfl) gT FT.kp bT .nil pass0 (pa_cons (pv 0) (pa_cons (pe_op op_add (pe_callB call_len_seq (by rfl) B.len PySem.boot_len (pa_cons (pv 4) pa_nil)) pe_int) pa_nil))))
 (pss_cons (ps_set (i := 7) scOdd.nd rfl (.inl rfl) (pe_lst
        (pa_cons (pe_revT (pv 4))
        (pa_cons (pe_op op_cat1 (pv 4) (pe_slice sl_tup1 (pv 4) po_none (po_some pe_int)))
        (pa_cons (pe_callTy call_list_of (by rfl) B.list (by decide +kernel) (pa_cons (pv 4) pa_nil))
        (pa_cons (pe_op op_cat1 (pe_op op_cat1 (pe_slice sl_tup1 (pv 4) po_none (po_some (pv 6))) (pe_tup (pa_cons (pv 5) pa_nil))) (pe_slice sl_tup1 (pv 4) (po_some (pe_op op_add (pv 6) pe_int)) po_none))
        (pa_cons (pe_op op_cat1 (pe_op op_cat1 (pe_slice sl_tup1 (pv 4) po_none (po_some (pv 6))) (pe_tup (pa_cons (pv 5) pa_nil))) (pe_slice sl_tup1 (pv 4) (po_some (pv 6)) po_none))
        (pa_cons pe_int pa_nil))))))))
 (pss_cons (ps_set (i := 8) scOdd.nd rfl (.inl rfl) (pe_lst (pa_cons (pe_un un_neg pe_int) (pa_cons pe_int (pa_cons pe_bl (pa_cons pe_bl (pa_cons pe_non (pa_cons pe_str (pa_cons pe_int (pa_cons pe_int (pa_cons (pe_tup (pa_cons pe_int pa_nil)) (pa_cons (pe_lst (pa_cons pe_int pa_nil)) (pa_cons (pe_op op_pow pe_int pe_int) pa_nil)))))))))))))
 (pss_cons (ps_set (i := 9) scOdd.nd rfl (.inl rfl) (pe_lst
        (pa_cons (pe_tup (pa_cons (pv 3) (pa_cons (pe_call GP hr (by rfl) gP FP.kp bP .nil pass0 (pa_cons (pv 0) (pa_cons (pv 7) pa_nil))) pa_nil)))
        (pa_cons (pe_tup (pa_cons (pe_call GP hr (by rfl) gP FP.kp bP .nil pass0 (pa_cons (pv 0) (pa_cons (pv 8) pa_nil))) (pa_cons (pv 4) pa_nil))) pa_nil))))
 (pss_cons (ps_expr (pe_bm PySem.F.plainAttrs_list PySem.F.slot_list_append PySem.F.type_list_append mt_append (pv 9) (pa_cons (pe_tup (pa_cons (pe_call GP hr (by rfl) gP FP.kp bP .nil pass0 (pa_cons (pv 0) (pa_cons (pv 8) pa_nil)))
        (pa_cons (pe_call GP hr (by rfl) gP FP.kp bP .nil pass0 (pa_cons (pv 0) (pa_cons (pv 7) pa_nil))) pa_nil))) pa_nil)))
 (pss_one (ps_ret (pe_call GP hr (by rfl) gP FP.kp bP .nil pass0 (pa_cons (pv 0) (pa_cons (pe_op op_cat (pe_op op_cat (pv 9) (pv 9)) (pe_lst
        (pa_cons (pe_tup (pa_cons (pv 3) pa_nil)) (pa_cons (pe_tup (pa_cons (pv 3) (pa_cons (pv 4) (pa_cons pe_int pa_nil)))) (pa_cons (pe_lst (pa_cons (pv 3) (pa_cons (pv 4) pa_nil)))
        (pa_cons pe_non (pa_cons (pe_tup pa_nil) (pa_cons (pe_tup (pa_cons (pv 4) (pa_cons (pv 3) pa_nil))) (pa_cons (pv 3) pa_nil))))))))) pa_nil)))))))))))), ?_⟩
    have hfP : ¬ H f = none := fun e => by
      obtain ⟨a, b, z⟩ := hF
      rw [e] at z
      cases z
    replace hT : SqT K H t [.int lim, .ref m] := hT
    replace hM : SqT K H m (mw.map V.int) := hM
    have wl0 : ((mw.length : Nat) : Int) ≤ n := Asc.len ok.2.2 (by omega)
    have wl : mw.length ≤ 6 := by omega
    have wd : ∀ x ∈ mw, Dig x := fun x hx => by
      have h0 := ok.2.2.2 x hx
      exact dig_of h0.1 (by omega)
    have sw : SmI mw := ⟨by omega, wd⟩
    have dlim : Dig lim := dig_of ok.1 (by have := ok.2.1; dsimp only at this; omega)
    have one_ : 1 ≤ sizeLine := by decide
    have two : 2 ≤ sizeLine := by decide
    refine ⟨_, rfl, t, _, rfl, hT, rfl, _, _, rfl, _, _, rfl, rfl, ?_⟩
    -- one
    refine ⟨_, rfl, 1, rfl, _, rfl, Nat.zero_le _, fun e ne dd nd => ⟨10, 20, rfl, rfl, ⟨by decide, by decide, by decide⟩, (by show 10 ≤ sizeLine; decide), fun l nl => ?_⟩⟩
    have s1 : Same H (upd H e (.lst [])) := sameU ne
    have s2 : Same (upd H e (.lst [])) (upd (upd H e (.lst [])) dd (.dK [])) := sameU nd
    have sx : Same H (upd (upd H e (.lst [])) dd (.dK [])) := s1.trans s2
    have hed : upd (upd H e (.lst [])) dd (.dK []) e = some (.lst []) := s2 _ _ upd_same
    have hdd : upd (upd H e (.lst [])) dd (.dK []) dd = some (.dK []) := upd_same
    generalize upd (upd H e (.lst [])) dd (.dK []) = H0 at *
    have hF0 : FeedAt H0 f := let ⟨a, b, z⟩ := hF; ⟨a, b, sx _ _ z⟩
    have hall : ∀ u ∈ [V.non, .bl true, .bl false, .int (-1), .int n, .str "0", .ref e, .ref dd, .int ((10 : Int) ^ (20 : Int).toNat), .int 0], Nic K (fun p => H p = none) 1 21 H0 u := by
      intro u hu
      simp only [List.mem_cons, List.not_mem_nil, or_false] at hu
      rcases hu with rfl | rfl | rfl | rfl | rfl | rfl | rfl | rfl | rfl | rfl
      · exact nic_non.mono (by decide) (by decide)
      · exact (nic_bl _).mono (by decide) (by decide)
      · exact (nic_bl _).mono (by decide) (by decide)
      · exact nic_neg.mono (by decide) (by decide)
      · exact (nic_dig (dig_of (by omega) (by omega))).mono (by decide) (by decide)
      · exact ⟨_, .str _, ⟨by decide +kernel, by decide +kernel, by decide +kernel⟩, rfl⟩
      · exact ⟨_, .lst ne hed .nil, sm_nil.mono (by decide) (by decide), rfl⟩
      · exact ⟨_, .dic hdd, sm_dic.mono (by decide) (by decide), rfl⟩
      · exact nic_big.mono (by decide) (by decide)
      · exact (nic_dig (dig_of (by omega) (by omega))).mono (by decide) (by decide)
    have hll : ([V.non, .bl true, .bl false, .int (-1), .int n, .str "0", .ref e, .ref dd, .int ((10 : Int) ^ (20 : Int).toNat), .int 0] : List V).length = 10 := rfl
    change H0 l = none at nl
    revert hall hll
    generalize ([V.non, .bl true, .bl false, .int (-1), .int n, .str "0", .ref e, .ref dd, .int ((10 : Int) ^ (20 : Int).toNat), .int 0] : List V) = os
    intro hall hll
    have sl : Same H0 (upd H0 l (.lst os)) := sameU nl
    have hFl : FeedAt (upd H0 l (.lst os)) f := let ⟨a, b, z⟩ := hF0; ⟨a, b, sl _ _ z⟩
    refine ⟨f, l, os, rfl, hFl, .inl (.inl upd_same), hF0.ne nl, by omega, by omega, fun H1 one e1 hm => ?_⟩
    have ho1 : Nic K (fun p => H p = none) 1 21 H1 one := ((hall one hm).over (over_same sl)).over (over_ext e1 hFl hfP)
    have e01 : Ext1 f H H1 := (Ext1.same hF (sx.trans sl)).trans e1
    clear hall hll sl hFl hed hdd sx s1 s2
    -- at
    have hM1 := e01.sqT hF hM
    refine ⟨_, rfl, _, rfl, m, _, rfl, .inr hM1, _, _, rfl, rfl, f, _, rfl, e1.feed, by rw [List.length_map]; omega, by rw [List.length_map]; omega, fun H2 at_ e2 a0 a1 => ?_⟩
    rw [List.length_map] at a1
    have ho2 := ho1.over (over_ext e2 e1.feed hfP)
    have e02 : Ext1 f H H2 := e01.trans e2
    have hM2 := e02.sqT hF hM
    obtain ⟨j, rfl⟩ : ∃ j : Nat, at_ = (j : Int) := ⟨at_.toNat, by omega⟩
    have fr : ∀ {Hx : Hp} {p : Addr}, Same H2 Hx → Hx p = none → H p = none := fun s h => e02.free (s.free h)
    -- rows
    refine ⟨_, rfl, m, _, rfl, hM2, fun p1 np1 => ?_⟩
    have sa : Same H2 (upd H2 p1 (.tup (mw.map V.int).reverse)) := sameU np1
    have k1 : Nic K (fun p => H p = none) 2 400 (upd H2 p1 (.tup (mw.map V.int).reverse)) (.ref p1) := nic_row (w := mw.reverse) ⟨_, rfl, .inl (.inl (by rw [upd_same, List.map_reverse]))⟩ (sw.sub (by rw [List.length_reverse]; exact Nat.le_refl _) fun x hx => List.mem_reverse.mp hx)
    generalize upd H2 p1 (.tup (mw.map V.int).reverse) = Ha at *
    refine ⟨_, rfl, _, rfl, 1, rfl, m, _, rfl, sameT sa hM2, fun q1 Hb sb hq1 => ?_⟩
    obtain ⟨c6, ec6, lc6, mc6⟩ := cut_ints mw none (some (1 : Int))
    rw [ec6] at hq1
    refine ⟨m, q1, _, _, rfl, rfl, sameT (sa.trans sb) hM2, hq1, szL (by rw [List.length_map, List.length_map]; omega), fun p2 Hc sc hp2 => ?_⟩
    rw [← List.map_append] at hp2
    have k2 : Nic K (fun p => H p = none) 2 400 Hc (.ref p2) := nic_row ⟨_, rfl, hp2⟩ ⟨by rw [List.length_append]; omega, fun x hx => (List.mem_append.mp hx).elim (wd x) fun h => wd x (mc6 x h)⟩
    have k1 := k1.over (over_same (sb.trans sc))
    have s2c : Same H2 Hc := sa.trans (sb.trans sc)
    clear sa sb sc hq1 hp2
    refine ⟨_, rfl, m, _, rfl, .inr (sameT s2c hM2), fun p3 np3 => ?_⟩
    have sd : Same Hc (upd Hc p3 (.lst (mw.map V.int))) := sameU np3
    have k3 : Nic K (fun p => H p = none) 2 400 (upd Hc p3 (.lst (mw.map V.int))) (.ref p3) := (nic_lst (n := 0) (b := 1) (fr s2c np3) upd_same (by rw [List.length_map]; omega) (nic_ints wd)).mono (by decide) (by rw [List.length_map]; omega)
    have s2d := s2c.trans sd
    have k1 := k1.over (over_same sd)
    have k2 := k2.over (over_same sd)
    clear sd s2c
    generalize upd Hc p3 (.lst (mw.map V.int)) = Hd at *
    -- the fourth
    refine ⟨_, rfl, _, rfl, _, rfl, m, _, rfl, sameT s2d hM2, fun q1 He se hq1 => ⟨_, rfl, one_, fun t1 nt1 => ?_⟩⟩
    obtain ⟨c1, ec1, lc1, mc1⟩ := cut_ints mw none (some (j : Int))
    rw [ec1] at hq1
    have sc1 : c1.length ≤ 6 ∧ ∀ x ∈ c1, Dig x := ⟨by omega, fun x hx => wd x (mc1 x hx)⟩
    have sf : Same Hd (upd He t1 (.tup [one])) := se.trans (sameU nt1)
    have ht1 : upd He t1 (.tup [one]) t1 = some (.tup [one]) := upd_same
    have hq1' := sameT (sameU (o := .tup [one]) nt1) hq1
    generalize upd He t1 (.tup [one]) = Hf at *
    refine ⟨q1, t1, _, _, rfl, rfl, hq1', .inl (.inl ht1), szL (by rw [List.length_map]; show c1.length + 1 ≤ 1000000; omega), fun q2 Hg sg hq2 => ?_⟩
    refine ⟨_, rfl, _, rfl, _, _, rfl, rfl, _, rfl, m, _, rfl, sameT (s2d.trans (sf.trans sg)) hM2, fun q3 Hh sh hq3 => ?_⟩
    obtain ⟨c2, ec2, lc2, mc2⟩ := cut_ints mw (some ((j : Int) + 1)) none
    rw [ec2] at hq3
    refine ⟨q2, q3, _, _, rfl, rfl, sameT sh hq2, hq3, szL (by rw [List.length_append, List.length_map, List.length_map]; show c1.length + 1 + c2.length ≤ 1000000; omega), fun p4 Hi si hp4 => ?_⟩
    have sdi : Same Hd Hi := sf.trans (sg.trans (sh.trans si))
    have k4 : Nic K (fun p => H p = none) 2 400 Hi (.ref p4) := nic_mid hp4 (ho2.over (over_same (s2d.trans sdi))) sc1 ⟨by omega, fun x hx => wd x (mc2 x hx)⟩
    have k1 := k1.over (over_same sdi)
    have k2 := k2.over (over_same sdi)
    have k3 := k3.over (over_same sdi)
    have s2i := s2d.trans sdi
    clear hq1' ht1 hq1 hq2 hq3 hp4 se sf sg sh si sdi s2d
    -- the fifth
    refine ⟨_, rfl, _, rfl, _, rfl, m, _, rfl, sameT s2i hM2, fun q1 Hj sj hq1 => ⟨_, rfl, one_, fun t1 nt1 => ?_⟩⟩
    rw [ec1] at hq1
    have sk : Same Hi (upd Hj t1 (.tup [one])) := sj.trans (sameU nt1)
    have ht1 : upd Hj t1 (.tup [one]) t1 = some (.tup [one]) := upd_same
    have hq1' := sameT (sameU (o := .tup [one]) nt1) hq1
    generalize upd Hj t1 (.tup [one]) = Hk at *
    refine ⟨q1, t1, _, _, rfl, rfl, hq1', .inl (.inl ht1), szL (by rw [List.length_map]; show c1.length + 1 ≤ 1000000; omega), fun q2 Hm sm hq2 => ?_⟩
    refine ⟨_, rfl, _, rfl, _, rfl, m, _, rfl, sameT (s2i.trans (sk.trans sm)) hM2, fun q3 Hn sn hq3 => ?_⟩
    obtain ⟨c3, ec3, lc3, mc3⟩ := cut_ints mw (some (j : Int)) none
    rw [ec3] at hq3
    refine ⟨q2, q3, _, _, rfl, rfl, sameT sn hq2, hq3, szL (by rw [List.length_append, List.length_map, List.length_map]; show c1.length + 1 + c3.length ≤ 1000000; omega), fun p5 Ho so hp5 => ?_⟩
    have sio : Same Hi Ho := sk.trans (sm.trans (sn.trans so))
    have k5 : Nic K (fun p => H p = none) 2 400 Ho (.ref p5) := nic_mid hp5 (ho2.over (over_same (s2i.trans sio))) sc1 ⟨by omega, fun x hx => wd x (mc3 x hx)⟩
    have k1 := k1.over (over_same sio)
    have k2 := k2.over (over_same sio)
    have k3 := k3.over (over_same sio)
    have k4 := k4.over (over_same sio)
    have s2o := s2i.trans sio
    clear hq1' ht1 hq1 hq2 hq3 hp5 sj sk sm sn so sio s2i
    refine ⟨(by show 6 ≤ sizeLine; decide), fun S nS => ?_⟩
    have fS : S ≠ f := (e02.trans (Ext1.same e02.feed s2o)).feed.ne nS
    have hS6 : ∀ u ∈ [V.ref p1, .ref p2, .ref p3, .ref p4, .ref p5, .int 0], Nic K (fun p => H p = none) 2 400 Ho u := by
      intro u hu
      simp only [List.mem_cons, List.not_mem_nil, or_false] at hu
      rcases hu with rfl | rfl | rfl | rfl | rfl | rfl
      · exact k1
      · exact k2
      · exact k3
      · exact k4
      · exact k5
      · exact (nic_dig (dig_of (by omega) (by omega))).mono (by decide) (by decide)
    have hS6l : ([V.ref p1, .ref p2, .ref p3, .ref p4, .ref p5, .int 0] : List V).length = 6 := rfl
    clear k1 k2 k3 k4 k5
    generalize ([V.ref p1, .ref p2, .ref p3, .ref p4, .ref p5, .int 0] : List V) = ss at *
    have sp : Same Ho (upd Ho S (.lst ss)) := sameU nS
    have hSs : upd Ho S (.lst ss) S = some (.lst ss) := upd_same
    have hS6 : ∀ u ∈ ss, Nic K (fun p => H p = none) 2 400 (upd Ho S (.lst ss)) u := fun u hu => (hS6 u hu).over (over_same sp)
    have s2p := s2o.trans sp
    clear sp s2o
    generalize upd Ho S (.lst ss) = Hp1 at *
    -- limits
    refine ⟨1, rfl, one_, fun t9 nt9 => ⟨one_, fun l9 nl9 => ⟨10, 20, rfl, rfl, ⟨by decide, by decide, by decide⟩, (by show 11 ≤ sizeLine; decide), fun Lm nLm => ?_⟩⟩⟩
    have g1 : Same Hp1 (upd Hp1 t9 (.tup [.int 1])) := sameU nt9
    have g2 : Same (upd Hp1 t9 (.tup [.int 1])) (upd (upd Hp1 t9 (.tup [.int 1])) l9 (.lst [.int 1])) := sameU nl9
    have x1 := g2 _ _ (show upd Hp1 t9 (.tup [.int 1]) t9 = some (.tup [.int 1]) from upd_same)
    have x2 : upd (upd Hp1 t9 (.tup [V.int 1])) l9 (.lst [.int 1]) l9 = some (.lst [.int 1]) := upd_same
    have nl9' : H l9 = none := fr (s2p.trans g1) nl9
    have g12 := g1.trans g2
    generalize upd (upd Hp1 t9 (.tup [V.int 1])) l9 (.lst [.int 1]) = Hq at *
    have fL : Lm ≠ f := (e02.trans (Ext1.same e02.feed (s2p.trans g12))).feed.ne nLm
    have d1_ : ∀ u ∈ [V.int 1], Nic K (fun p => H p = none) 0 1 Hq u := fun u hu => by rw [List.mem_singleton.mp hu]; exact nic_dig (dig_of (by omega) (by omega))
    have hLm : ∀ u ∈ [V.int (-1), .int 7, .bl true, .bl false, .non, .str "1", .int 6, .int 0, .ref t9, .ref l9, .int ((10 : Int) ^ (20 : Int).toNat)], Nic K (fun p => H p = none) 1 21 Hq u := by
      intro u hu
      simp only [List.mem_cons, List.not_mem_nil, or_false] at hu
      rcases hu with rfl | rfl | rfl | rfl | rfl | rfl | rfl | rfl | rfl | rfl | rfl
      · exact nic_neg.mono (by decide) (by decide)
      · exact (nic_dig (dig_of (by omega) (by omega))).mono (by decide) (by decide)
      · exact (nic_bl _).mono (by decide) (by decide)
      · exact (nic_bl _).mono (by decide) (by decide)
      · exact nic_non.mono (by decide) (by decide)
      · exact ⟨_, .str _, ⟨by decide +kernel, by decide +kernel, by decide +kernel⟩, rfl⟩
      · exact (nic_dig (dig_of (by omega) (by omega))).mono (by decide) (by decide)
      · exact (nic_dig (dig_of (by omega) (by omega))).mono (by decide) (by decide)
      · exact (nic_tup (n := 0) (b := 1) (.inl (.inl x1)) (by decide) d1_).mono (by decide) (by decide)
      · exact (nic_lst (n := 0) (b := 1) nl9' x2 (by decide) d1_).mono (by decide) (by decide)
      · exact nic_big.mono (by decide) (by decide)
    have hLml : ([V.int (-1), .int 7, .bl true, .bl false, .non, .str "1", .int 6, .int 0, .ref t9, .ref l9, .int ((10 : Int) ^ (20 : Int).toNat)] : List V).length = 11 := rfl
    revert hLm hLml
    generalize ([V.int (-1), .int 7, .bl true, .bl false, .non, .str "1", .int 6, .int 0, .ref t9, .ref l9, .int ((10 : Int) ^ (20 : Int).toNat)] : List V) = ls
    intro hLm hLml
    have g3 : Same Hq (upd Hq Lm (.lst ls)) := sameU nLm
    have hLs : upd Hq Lm (.lst ls) Lm = some (.lst ls) := upd_same
    have hLm : ∀ u ∈ ls, Nic K (fun p => H p = none) 1 21 (upd Hq Lm (.lst ls)) u := fun u hu => (hLm u hu).over (over_same g3)
    have hSs := (g12.trans g3) _ _ hSs
    have hS6 : ∀ u ∈ ss, Nic K (fun p => H p = none) 2 400 (upd Hq Lm (.lst ls)) u := fun u hu => (hS6 u hu).over (over_same (g12.trans g3))
    have s2r := s2p.trans (g12.trans g3)
    clear g1 g2 g3 g12 x1 x2 d1_ s2p
    generalize upd Hq Lm (.lst ls) = Hr at *
    have e0r : Ext1 f H Hr := e02.trans (Ext1.same e02.feed s2r)
    -- some: what holds as long as all but the feed stands
    have pS : ∀ (P' : Addr → Prop), (∀ a xs, Hr a = some (.lst xs) → H a = none → P' a) → ¬ P' f → ∀ Hx, Ext1 f Hr Hx → ∀ (Q2 : VK), (∀ H' u, Ext1 f Hx H' → Nic K P' 2 400 H' u → Q2 u H') → spPick K [.ref f, .ref S] Hx Q2 E0 := fun P' im nf Hx ex Q2 k =>
      ⟨f, S, ss, rfl, ex.feed, .inl (.inl (ex.1 _ _ fS hSs)), fS, by omega, by omega, fun H' u e' hm => k H' u e' (((hS6 u hm).imp im).over (over_ext (ex.trans e') e0r.feed nf))⟩
    have pL : ∀ (P' : Addr → Prop), (∀ a xs, Hr a = some (.lst xs) → H a = none → P' a) → ¬ P' f → ∀ Hx, Ext1 f Hr Hx → ∀ (Q2 : VK), (∀ H' u, Ext1 f Hx H' → Nic K P' 1 21 H' u → Q2 u H') → spPick K [.ref f, .ref Lm] Hx Q2 E0 := fun P' im nf Hx ex Q2 k =>
      ⟨f, Lm, ls, rfl, ex.feed, .inl (.inl (ex.1 _ _ fL hLs)), fL, by omega, by omega, fun H' u e' hm => k H' u e' (((hLm u hm).imp im).over (over_ext (ex.trans e') e0r.feed nf))⟩
    have kMay : ∀ (P' : Addr → Prop) Hx, Ext1 f Hr Hx → Nic K P' 2 400 Hx (.ref m) := fun P' Hx ex => nic_row ⟨_, rfl, (e0r.trans ex).sqT hF hM⟩ sw
    have kLim : ∀ (P' : Addr → Prop) (Hx : Hp), Nic K P' 2 400 Hx (.int lim) := fun P' Hx => (nic_dig dlim).mono (by decide) (by decide)
    have pair : ∀ {P' : Addr → Prop} {Hx : Hp} {p : Addr} {x y : V}, Hx p = none → Nic K P' 2 400 Hx x → Nic K P' 2 400 Hx y → Nic K P' 3 1300 (upd Hx p (.tup [x, y])) (.ref p) := fun {P' Hx p x y} np kx ky =>
      (nic_tup (n := 2) (b := 400) (.inl (.inl upd_same)) (by simp) (fun u hu => by
        simp only [List.mem_cons, List.not_mem_nil, or_false] at hu
        rcases hu with rfl | rfl
        · exact kx.over (over_same (sameU np))
        · exact ky.over (over_same (sameU np)))).mono (by decide) (by simp)
    refine ⟨_, rfl, _, rfl, _, rfl, pS (fun p => H p = none) (fun _ _ _ h => h) hfP Hr (Ext1.refl e0r.feed) _ fun Ha u1 ea ku1 => ⟨two, fun r1 nr1 => ?_⟩⟩
    have z1 := pair nr1 (kLim _ Ha) ku1
    have eb := ea.new (o := .tup [.int lim, u1]) nr1
    generalize upd Ha r1 (.tup [.int lim, u1]) = Hb at *
    refine ⟨_, rfl, _, rfl, pL (fun p => H p = none) (fun _ _ _ h => h) hfP Hb eb _ fun Hc u2 ec ku2 => ⟨_, rfl, two, fun r2 nr2 => ?_⟩⟩
    have z2 := pair nr2 (ku2.mono (by decide) (by decide)) (kMay _ Hc (eb.trans ec))
    have z1 := (z1.over (over_ext ec eb.feed hfP)).over (over_same (sameU (o := .tup [u2, .ref m]) nr2))
    have ed := (eb.trans ec).new (o := .tup [u2, .ref m]) nr2
    generalize upd Hc r2 (.tup [u2, .ref m]) = Hd at *
    refine ⟨two, fun Sm_ nSm => ?_⟩
    have fSm : Sm_ ≠ f := ed.feed.ne nSm
    have nSr : Hr Sm_ = none := ed.free nSm
    have nS0 : H Sm_ = none := (e0r.trans ed).free nSm
    have im2 : ∀ a xs, Hr a = some (.lst xs) → H a = none → H a = none ∧ a ≠ Sm_ := fun a xs e h => ⟨h, ne_of_none e nSr⟩
    have nf2 : ¬ (H f = none ∧ f ≠ Sm_) := fun h => hfP h.1
    have z1 : Nic K (fun p => H p = none ∧ p ≠ Sm_) 3 1300 Hd (.ref r1) := z1.imp fun a xs e h => ⟨h, ne_of_none e nSm⟩
    have z2 : Nic K (fun p => H p = none ∧ p ≠ Sm_) 3 1300 Hd (.ref r2) := z2.imp fun a xs e h => ⟨h, ne_of_none e nSm⟩
    have z1 := z1.over (over_same (sameU (o := .lst [.ref r1, .ref r2]) nSm))
    have z2 := z2.over (over_same (sameU (o := .lst [.ref r1, .ref r2]) nSm))
    have ee := ed.new (o := .lst [.ref r1, .ref r2]) nSm
    have hSm : upd Hd Sm_ (.lst [.ref r1, .ref r2]) Sm_ = some (.lst [.ref r1, .ref r2]) := upd_same
    generalize upd Hd Sm_ (.lst [.ref r1, .ref r2]) = He at *
    clear ea ec ed eb ku1 ku2 nr1 nr2 nSm
    -- some.append
    refine ⟨_, rfl, .inl ⟨rfl, _, .inl (.inl hSm)⟩, ?_⟩
    refine ⟨_, rfl, _, rfl, pL (fun p => H p = none ∧ p ≠ Sm_) im2 nf2 He ee _ fun Hf u3 ef ku3 => ⟨_, rfl, _, rfl, pS (fun p => H p = none ∧ p ≠ Sm_) im2 nf2 Hf (ee.trans ef) _ fun Hg u4 eg ku4 => ⟨two, fun r3 nr3 => ?_⟩⟩⟩
    have efg := ef.trans eg
    have z3 := pair nr3 ((ku3.mono (by decide) (by decide)).over (over_ext eg (ee.trans ef).feed nf2)) ku4
    have z1 := (z1.over (over_ext efg ee.feed nf2)).over (over_same (sameU (o := .tup [u3, u4]) nr3))
    have z2 := (z2.over (over_ext efg ee.feed nf2)).over (over_same (sameU (o := .tup [u3, u4]) nr3))
    have eh := (ee.trans efg).new (o := .tup [u3, u4]) nr3
    have hSm' : upd Hg r3 (.tup [u3, u4]) Sm_ = some (.lst [.ref r1, .ref r2]) := sameU nr3 _ _ (efg.1 _ _ fSm hSm)
    generalize upd Hg r3 (.tup [u3, u4]) = Hh at *
    clear ef eg efg ku3 ku4 nr3 hSm ee
    refine ⟨Sm_, _, _, rfl, rfl, hSm', szL (by show 3 ≤ 1000000; decide), ?_⟩
    have im3 : ∀ (Hx : Hp) a xs, Hx a = some (.lst xs) → H a = none ∧ a ≠ Sm_ → H a = none := fun Hx a xs e h => h.1
    have nP3 : ¬ (H Sm_ = none ∧ Sm_ ≠ Sm_) := fun h => h.2 rfl
    have z1 := (z1.over (over_upd (o := .lst ([.ref r1, .ref r2] ++ [.ref r3])) hSm' nP3)).imp (im3 _)
    have z2 := (z2.over (over_upd (o := .lst ([.ref r1, .ref r2] ++ [.ref r3])) hSm' nP3)).imp (im3 _)
    have z3 := (z3.over (over_upd (o := .lst ([.ref r1, .ref r2] ++ [.ref r3])) hSm' nP3)).imp (im3 _)
    have ei := eh.own (o := .lst ([.ref r1, .ref r2] ++ [.ref r3])) nSr fSm
    have hSm : upd Hh Sm_ (.lst ([.ref r1, .ref r2] ++ [.ref r3])) Sm_ = some (.lst ([.ref r1, .ref r2] ++ [.ref r3])) := upd_same
    generalize upd Hh Sm_ (.lst ([.ref r1, .ref r2] ++ [.ref r3])) = Hi at *
    have hz : ∀ u ∈ ([V.ref r1, .ref r2] ++ [.ref r3] : List V), Nic K (fun p => H p = none) 3 1300 Hi u := by
      intro u hu
      simp only [List.cons_append, List.nil_append, List.mem_cons, List.not_mem_nil, or_false] at hu
      rcases hu with rfl | rfl | rfl
      · exact z1
      · exact z2
      · exact z3
    have hzl : ([V.ref r1, .ref r2] ++ [.ref r3] : List V).length = 3 := rfl
    clear z1 z2 z3 eh hSm'
    generalize ([V.ref r1, .ref r2] ++ [.ref r3] : List V) = zs at *
    -- the last pick
    refine ⟨_, rfl, _, rfl, _, rfl, Sm_, Sm_, zs, zs, rfl, rfl, hSm, hSm, szL (by omega), fun D nD => ?_⟩
    have g1 := sameU (o := .lst (zs ++ zs)) nD
    have hD : upd Hi D (.lst (zs ++ zs)) D = some (.lst (zs ++ zs)) := upd_same
    have hz2 : ∀ u ∈ zs ++ zs, Nic K (fun p => H p = none) 3 1300 (upd Hi D (.lst (zs ++ zs))) u := fun u hu => (hz u ((List.mem_append.mp hu).elim id id)).over (over_same g1)
    have hzl2 : (zs ++ zs).length = 6 := by rw [List.length_append]; omega
    have ej := ei.trans (Ext1.same ei.feed g1)
    clear hz g1 ei hSm
    generalize upd Hi D (.lst (zs ++ zs)) = Hj at *
    generalize zs ++ zs = ys at *
    refine ⟨_, rfl, one_, fun t1 nt1 => ⟨_, rfl, _, rfl, (by show 3 ≤ sizeLine; decide), fun t2 nt2 => ⟨_, rfl, _, rfl, two, fun t3 nt3 => ⟨Nat.zero_le _, fun t4 nt4 => ⟨_, rfl, _, rfl, two, fun t5 nt5 => ⟨_, rfl, (by show 7 ≤ sizeLine; decide), fun M nM => ?_⟩⟩⟩⟩⟩⟩
    have y1 := sameU (o := .tup [.int lim]) nt1
    have y2 := sameU (o := .tup [.int lim, .ref m, .int 0]) nt2
    have y3 := sameU (o := .lst [.int lim, .ref m]) nt3
    have y4 := sameU (o := .tup []) nt4
    have y5 := sameU (o := .tup [.ref m, .int lim]) nt5
    have h5 := show upd _ t5 (.tup [.ref m, .int lim]) t5 = some (.tup [.ref m, .int lim]) from upd_same (H := upd (upd (upd (upd Hj t1 (.tup [.int lim])) t2 (.tup [.int lim, .ref m, .int 0])) t3 (.lst [.int lim, .ref m])) t4 (.tup []))
    have h4 := y5 _ _ (show upd _ t4 (.tup []) t4 = some (.tup []) from upd_same)
    have h3 := (y4.trans y5) _ _ (show upd _ t3 (.lst [.int lim, .ref m]) t3 = some (.lst [.int lim, .ref m]) from upd_same)
    have h2 := (y3.trans (y4.trans y5)) _ _ (show upd _ t2 (.tup [.int lim, .ref m, .int 0]) t2 = some (.tup [.int lim, .ref m, .int 0]) from upd_same)
    have h1 := (y2.trans (y3.trans (y4.trans y5))) _ _ (show upd _ t1 (.tup [.int lim]) t1 = some (.tup [.int lim]) from upd_same)
    have yy := y1.trans (y2.trans (y3.trans (y4.trans y5)))
    have nt3' : H t3 = none := (e0r.trans ej).free ((y1.trans y2).free nt3)
    clear y1 y2 y3 y4 y5 nt1 nt2 nt3 nt4 nt5
    generalize upd (upd (upd (upd (upd Hj t1 (.tup [.int lim])) t2 (.tup [.int lim, .ref m, .int 0])) t3 (.lst [.int lim, .ref m])) t4 (.tup [])) t5 (.tup [.ref m, .int lim]) = Hk at *
    have ek := ej.trans (Ext1.same ej.feed yy)
    have kM := kMay (fun p => H p = none) Hk ek
    have kL := kLim (fun p => H p = none) Hk
    have hM7 : ∀ u ∈ [V.ref t1, .ref t2, .ref t3, .non, .ref t4, .ref t5, .int lim], Nic K (fun p => H p = none) 3 1300 (upd Hk M (.lst [V.ref t1, .ref t2, .ref t3, .non, .ref t4, .ref t5, .int lim])) u := by
      intro u hu
      refine Nic.over (over_same (sameU nM)) ?_
      simp only [List.mem_cons, List.not_mem_nil, or_false] at hu
      rcases hu with rfl | rfl | rfl | rfl | rfl | rfl | rfl
      · exact (nic_tup (n := 2) (b := 400) (.inl (.inl h1)) (by simp) (fun u hu => by
          rw [List.mem_singleton.mp hu]
          exact kL)).mono (by decide) (by simp)
      · exact (nic_tup (n := 2) (b := 400) (.inl (.inl h2)) (by simp) (fun u hu => by
          simp only [List.mem_cons, List.not_mem_nil, or_false] at hu
          rcases hu with rfl | rfl | rfl
          · exact kL
          · exact kM
          · exact (nic_dig (dig_of (by omega) (by omega))).mono (by decide) (by decide))).mono (by decide) (by simp)
      · exact (nic_lst (n := 2) (b := 400) nt3' h3 (by simp) (fun u hu => by
          simp only [List.mem_cons, List.not_mem_nil, or_false] at hu
          rcases hu with rfl | rfl
          · exact kL
          · exact kM)).mono (by decide) (by simp)
      · exact nic_non.mono (by decide) (by decide)
      · exact (nic_tup (n := 0) (b := 0) (.inl (.inl h4)) (by simp) (fun u hu => by simp at hu)).mono (by decide) (by simp)
      · exact (nic_tup (n := 2) (b := 400) (.inl (.inl h5)) (by simp) (fun u hu => by
          simp only [List.mem_cons, List.not_mem_nil, or_false] at hu
          rcases hu with rfl | rfl
          · exact kM
          · exact kL)).mono (by decide) (by simp)
      · exact kL.mono (by decide) (by decide)
    have hM : upd Hk M (.lst [V.ref t1, .ref t2, .ref t3, .non, .ref t4, .ref t5, .int lim]) M = some (.lst [V.ref t1, .ref t2, .ref t3, .non, .ref t4, .ref t5, .int lim]) := upd_same
    have hM7l : ([V.ref t1, .ref t2, .ref t3, .non, .ref t4, .ref t5, .int lim] : List V).length = 7 := rfl
    have sM := sameU (o := .lst [V.ref t1, .ref t2, .ref t3, .non, .ref t4, .ref t5, .int lim]) nM
    have em := ek.trans (Ext1.same ek.feed sM)
    have hD := (yy.trans sM) _ _ hD
    have hz2 : ∀ u ∈ ys, Nic K (fun p => H p = none) 3 1300 (upd Hk M (.lst [V.ref t1, .ref t2, .ref t3, .non, .ref t4, .ref t5, .int lim])) u := fun u hu => (hz2 u hu).over (over_same (yy.trans sM))
    generalize upd Hk M (.lst [V.ref t1, .ref t2, .ref t3, .non, .ref t4, .ref t5, .int lim]) = Hl at *
    generalize ([V.ref t1, .ref t2, .ref t3, .non, .ref t4, .ref t5, .int lim] : List V) = es at *
    refine ⟨D, M, ys, es, rfl, rfl, hD, hM, szL (by omega), fun Z nZ => ?_⟩
    have sZ := sameU (o := .lst (ys ++ es)) nZ
    have eZ := em.trans (Ext1.same em.feed sZ)
    refine ⟨f, Z, ys ++ es, rfl, eZ.feed, .inl (.inl upd_same), em.feed.ne nZ, by rw [List.length_append]; omega, by rw [List.length_append]; omega, fun H' u e' hm => ?_⟩
    refine q H' u ((e0r.trans eZ).trans e') (Nic.over (over_ext e' eZ.feed hfP) (Nic.over (over_same sZ) ?_))
    rcases List.mem_append.mp hm with h | h
    · exact hz2 u h
    · exact hM7 u h
end
end Ew
namespace Ew
open PySem PySem.Spec PyProof.Rows L2
abbrev sNear1 : Stmt := (top 26)
def spNear1 (K : PySem.W.Frag) : Sp := fun vs H Q _ => ∃ (f A R : Addr) (ds : List Int) (us : List V) (rs : List (Int × List Int)), vs = [.ref f, .ref A, .ref R] ∧ FeedAt H f ∧ A ≠ f ∧ R ≠ f ∧ BookAt K H A R ds us rs ∧
  ∀ H' p v1 v2, Ext1 f H H' → H p = none → H' p = some (.lst [v1, v2]) → Nic K (fun b => H b = none) 5 30000 H' v1 → Nic K (fun b => H b = none) 5 30000 H' v2 → Q (.ref p) H'
theorem over_none {H H' : Hp} {D : Addr} {xs : List V} {o : HO} (e : H D = some (.lst xs)) : Over (fun _ => False) H (upd H D o) := over_upd e id
theorem nic_rd {K : PySem.W.Frag} {H : Hp} {n : Int} {v : V} {r : Int × List Int} (h : RdT K H v r) (o : RdOk n r) (n0 : 0 ≤ n) (n6 : n ≤ 6) : Nic K (fun _ => False) 3 1300 H v := by
  obtain ⟨t, m, rfl, hT, hM⟩ := h
  have l0 := Asc.len o.2.2 n0
  have k1 : Nic K (fun _ => False) 2 400 H (.ref m) := nic_row ⟨_, rfl, hM⟩ ⟨by omega, fun x hx => by have := o.2.2.2 x hx; exact dig_of this.1 (by omega)⟩
  refine (nic_tup (n := 2) (b := 400) hT (by simp) fun u hu => ?_).mono (by decide) (by simp)
  simp only [List.mem_cons, List.not_mem_nil, or_false] at hu
  have := o.1
  have := o.2.1
  rcases hu with rfl | rfl
  · exact (nic_dig (dig_of o.1 (by omega))).mono (by decide) (by decide)
  · exact k1
theorem nic_all1 {K : PySem.W.Frag} {H : Hp} {n : Int} (n0 : 0 ≤ n) (n6 : n ≤ 6) : ∀ {us : List V} {rs : List (Int × List Int)}, Paired (RdT K H) us rs → RdsAt n rs → ∀ u ∈ us, Nic K (fun _ => False) 3 1300 H u
  | _, _, .nil, _, u, hu => by simp at hu
  | v :: us, r :: rs, .cons a t, o, u, hu => by
    rcases List.mem_cons.mp hu with e | e
    · rw [e]; exact nic_rd a (o r (by simp)) n0 n6
    · exact nic_all1 n0 n6 t (fun x hx => o x (by simp [hx])) u e
section
variable {P : Program} {w : World} {K : PySem.W.Frag} {mg : Str → Option Value} {base : Heap} {C : Addr}
theorem scNear1 : FnScope ["feed", "demands", "readers", "wanted", "some", "way", "more", "turn", "reader", "at"] ["feed", "demands", "readers"] (defScope sNear1) := ⟨rfl, rfl, rfl, by decide +kernel, rfl, by decide +kernel, by decide +kernel⟩
theorem ok_near1 {f fO : Addr} {fd fdO : FuncData} (F : Fun K "_law_near" "_law_near" sNear1 f fd) (L : Low K mg) (FO : Fun K "_law_odd" "_law_odd" sOdd fO fdO) (bO : Binds K fdO ["feed", "reader", "works"] []) (gO : mg "_law_odd" = some (.ref fO)) :
    FnOk P w K mg base CX0 4 f fd ["feed", "demands", "readers"] (spNear1 K) := by
  have GO : FnOk P w K mg base CX0 3 fO fdO ["feed", "reader", "works"] (spOdd K) := ok_odd FO L
  obtain ⟨B, _, ⟨fT, fdT, FT, bT, gT⟩, ⟨fP, fdP, FP, bP, gP⟩, _⟩ := L
  have GT : FnOk P w K mg base CX0 1 fT fdT ["feed", "many"] spTake := ok_take FT B
  have GP : FnOk P w K mg base CX0 2 fP fdP ["feed", "some"] (spPick K) := ok_pick FP FT bT gT B
  refine F.ok scNear1 (fun vs H Q E h => ?_) (fun cdv A outer s H vs Q E hr h => ?_)
  · obtain ⟨f, A, R, ds, us, rs, rfl, _⟩ := h
    rfl
  · obtain ⟨f, A, R, ds, us, rs, rfl, hF, fA, fR, bk, q⟩ := h
    have hr1 : Room 1 _ := hr.mono (by decide)
    have hr2 : Room 2 _ := hr.mono (by decide)
    refine ⟨_, (pss_cons (ps_par3 (i := 3) (j := 4) (l := 5) (by rfl) scNear1.nd rfl rfl rfl (by decide) (by decide) (by decide) rfl rfl rfl (pa_cons (pe_callTy call_list_of (by rfl) B.list (by decide +kernel) (pa_cons (pv 1) pa_nil)) (pa_cons (pe_callTy call_list_of (by rfl) B.list (by decide +kernel) (pa_cons (pv 2) pa_nil))
        (pa_cons (pe_call GT hr1 (by rfl) gT FT.kp bT .nil pass0 (pa_cons (pv 0) (pa_cons pe_int pa_nil))) pa_nil))) (by rfl))
 (C8.pss_cut (ps_if (pt_cmpR op_eq (pv 5) pe_int (nomark _)) (pss_one (ps_asg (pe_call GP hr2 (by rfl) gP FP.kp bP .nil pass0 (pa_cons (pv 0) (pa_cons (pe_lst
          (pa_cons pe_int (pa_cons (pe_un un_neg pe_int) (pa_cons pe_bl (pa_cons pe_bl (pa_cons pe_non (pa_cons pe_str (pa_cons pe_int (pa_cons pe_int (pa_cons (pe_lst (pa_cons pe_int pa_nil)) (pa_cons (pe_op op_pow pe_int pe_int) pa_nil))))))))))) pa_nil)))
          (pg_sub (pv 3) (pe_call GT hr1 (by rfl) gT FT.kp bT .nil pass0 (pa_cons (pv 0) (pa_cons (pe_callB call_len_seq (by rfl) B.len PySem.boot_len (pa_cons (pv 3) pa_nil)) pa_nil))) set_list))) pss_nil)
 (C8.pss_cut (ps_if (pt_cmpR op_eq (pv 5) pe_int (nomark _)) (pss_cons (ps_set (i := 6) scNear1.nd rfl (.inl rfl) (pe_op op_cat (pv 3) (pe_op op_rep (pe_lst (pa_cons pe_int pa_nil)) pe_int)))
          (pss_one (ps_set (i := 3) scNear1.nd rfl (.inl rfl) (pe_call GP hr2 (by rfl) gP FP.kp bP .nil pass0 (pa_cons (pv 0) (pa_cons (pe_lst
            (pa_cons (pe_callTy call_tuple_of (by rfl) B.tuple (by decide +kernel) (pa_cons (pv 3) pa_nil)) (pa_cons pe_non (pa_cons (pe_lst pa_nil) (pa_cons pe_dnewK (pa_cons pe_str (pa_cons pe_int (pa_cons pe_bl
            (pa_cons (pe_slice sl_list (pv 6) po_none (po_some pe_int)) (pa_cons (pe_slice sl_list (pv 6) po_none (po_some pe_int)) (pa_cons (pe_lst (pa_cons (pv 3) pa_nil)) pa_nil))))))))))) pa_nil)))))) pss_nil)
 (pss_cons (ps_if (PW.pt (pw_or (pt_cmpR op_eq (pv 5) pe_int (nomark _)) (pw_or1 (PW.pt (pw_and (pt_cmpR op_eq (pv 5) pe_int (nomark _)) (pw_and1 (pt_cmpR op_eq (pe_call GT hr1 (by rfl) gT FT.kp bT .nil pass0 (pa_cons (pv 0) (pa_cons pe_int pa_nil))) pe_int (nomark _))))))))
        (pss_cons (ps_set (i := 6) scNear1.nd rfl (.inl rfl) (pe_op op_cat (pv 4) (pe_op op_rep (pe_lst (pa_cons (pe_tup (pa_cons pe_int (pa_cons (pe_tup (pa_cons pe_int pa_nil)) pa_nil))) pa_nil)) pe_int)))
        (pss_cons (ps_set (i := 4) scNear1.nd rfl (.inl rfl) (pe_call GP hr2 (by rfl) gP FP.kp bP .nil pass0 (pa_cons (pv 0) (pa_cons (pe_lst
            (pa_cons (pe_callTy call_tuple_of (by rfl) B.tuple (by decide +kernel) (pa_cons (pv 4) pa_nil)) (pa_cons pe_non (pa_cons pe_dnewK (pa_cons pe_str (pa_cons pe_int (pa_cons pe_bl
            (pa_cons (pe_slice sl_list (pv 6) po_none (po_some pe_int)) (pa_cons (pe_slice sl_list (pv 6) po_none (po_some pe_int)) (pa_cons (pe_lst (pa_cons (pv 4) pa_nil)) pa_nil)))))))))) pa_nil))))
        (pss_one (ps_ret (pe_lst (pa_cons (pv 3) (pa_cons (pv 4) pa_nil))))))) pss_nil)
 (pss_cons (ps_for PassesOwn.never rfl (pi_range1 rfl B.range (pa_cons (pe_call GP hr2 (by rfl) gP FP.kp bP .nil pass0 (pa_cons (pv 0) (pa_cons (pe_lst (pa_cons pe_int (pa_cons pe_int (pa_cons pe_int (pa_cons pe_int (pa_cons pe_int pa_nil)))))) pa_nil))) pa_nil)) (pg_name (i := 7) scNear1.nd rfl (.inl rfl))
        (pss_cons (ps_set (i := 8) scNear1.nd rfl (.inl rfl) (pe_call GP hr2 (by rfl) gP FP.kp bP .nil pass0 (pa_cons (pv 0) (pa_cons (pe_op op_cat (pv 2) (pe_lst (pa_cons (pe_tup (pa_cons pe_int (pa_cons (pe_tup (pa_cons pe_int pa_nil)) pa_nil))) pa_nil))) pa_nil))))
 (pss_cons (ps_set (i := 9) scNear1.nd rfl (.inl rfl) (pe_call GT hr1 (by rfl) gT FT.kp bT .nil pass0 (pa_cons (pv 0) (pa_cons (pe_op op_add (pe_callB call_len_seq (by rfl) B.len PySem.boot_len (pa_cons (pv 4) pa_nil)) pe_int) pa_nil))))
 (pss_one (ps_asg (pe_lst (pa_cons (pe_call GO hr (by rfl) gO FO.kp bO .nil pass0 (pa_cons (pv 0) (pa_cons (pv 8) (pa_cons (pe_callB call_len_seq (by rfl) B.len PySem.boot_len (pa_cons (pv 1) pa_nil)) pa_nil)))) pa_nil))
            (pg_slcC (pv 4) (po_some (pv 9)) (po_some (pe_op op_add (pv 9) (pe_call GT hr1 (by rfl) gT FT.kp bT .nil pass0 (pa_cons (pv 0) (pa_cons pe_int pa_nil)))))))))))
 (pss_one (ps_ret (pe_lst (pa_cons (pv 3) (pa_cons (pv 4) pa_nil)))))))))), ?_⟩
    have hfP : ¬ H f = none := fun e => by
      obtain ⟨a, b, z⟩ := hF
      rw [e] at z
      cases z
    have one_ : 1 ≤ sizeLine := by decide
    have two : 2 ≤ sizeLine := by decide
    have n1 := bk.n1
    have n6 := bk.n6
    have r6 := bk.r6
    have ul : us.length ≤ 6 := by rw [Paired.len bk.rds]; exact r6
    have kU := nic_all1 (K := K) (H := H) (n := (ds.length : Int)) (by omega) (by omega) bk.rds bk.ok
    have dd_ : ∀ x ∈ ds, Dig x := fun x hx => by have := bk.d6 x hx; exact dig_of this.1 (by omega)
    -- wanted, some, way
    refine ⟨_, rfl, A, _, rfl, .inl (.inl (.inl bk.dem)), fun W nW => ?_⟩
    have s1 : Same H (upd H W (.lst (ds.map V.int))) := sameU nW
    have hW : upd H W (.lst (ds.map V.int)) W = some (.lst (ds.map V.int)) := upd_same
    generalize upd H W (.lst (ds.map V.int)) = H1 at *
    refine ⟨_, rfl, R, _, rfl, .inl (.inl (.inl (s1 _ _ bk.rd))), fun S nS => ?_⟩
    have s2 : Same H1 (upd H1 S (.lst us)) := sameU nS
    have hS : upd H1 S (.lst us) S = some (.lst us) := upd_same
    have nS0 : H S = none := s1.free nS
    have nWS : W ≠ S := ne_of_none hW nS
    have hW := s2 _ _ hW
    have s12 := s1.trans s2
    generalize upd H1 S (.lst us) = H2 at *
    have e02 : Ext1 f H H2 := Ext1.same hF s12
    have fW : W ≠ f := hF.ne nW
    have fS : S ≠ f := hF.ne nS0
    refine ⟨_, rfl, f, 8, rfl, e02.feed, by decide, by decide, fun H3 way e3 w0 w1 => ⟨_, _, _, rfl, ?_⟩⟩
    have e03 := e02.trans e3
    have hW := e3.1 _ _ fW hW
    have hS := e3.1 _ _ fS hS
    clear s1 s2 s12 e3 e02 nS
    -- way 0
    refine ⟨fun σ H' => ∃ wV, σ = [some (.ref f), some (.ref A), some (.ref R), some wV, some (.ref S), some (.int way), none, none, none, none] ∧ Ext1 f H H' ∧ H' S = some (.lst us) ∧ ((way = 0 ∧ Nic K (fun b => H b = none ∧ b ≠ S) 5 30000 H' wV) ∨ (way ≠ 0 ∧ wV = .ref W ∧ H' W = some (.lst (ds.map V.int)))), ?_, ?_⟩
    · refine ⟨_, rfl, rfl, _, rfl, ite2 (fun c => ?_) (fun c => ?_)⟩
      · have c0 : way = 0 := by
          have := of_decide_eq_true c
          injection this
        refine ⟨_, rfl, 1, rfl, one_, fun l1 nl1 => ⟨10, 20, rfl, rfl, ⟨by decide, by decide, by decide⟩, (by show 10 ≤ sizeLine; decide), fun l nl => ?_⟩⟩
        have s1 : Same H3 (upd H3 l1 (.lst [.int 1])) := sameU nl1
        have h1 : upd H3 l1 (.lst [V.int 1]) l1 = some (.lst [.int 1]) := upd_same
        have p1 : H l1 = none ∧ l1 ≠ W ∧ l1 ≠ S := ⟨e03.free nl1, (ne_of_none hW nl1).symm, (ne_of_none hS nl1).symm⟩
        generalize upd H3 l1 (.lst [V.int 1]) = H4 at *
        have hos : ∀ u ∈ [V.int 0, .int (-1), .bl true, .bl false, .non, .str "5", .int 6, .int 7, .ref l1, .int ((10 : Int) ^ (20 : Int).toNat)], Nic K (fun b => H b = none ∧ b ≠ W ∧ b ≠ S) 1 21 H4 u := by
          intro u hu
          simp only [List.mem_cons, List.not_mem_nil, or_false] at hu
          rcases hu with rfl | rfl | rfl | rfl | rfl | rfl | rfl | rfl | rfl | rfl
          · exact (nic_dig (dig_of (by omega) (by omega))).mono (by decide) (by decide)
          · exact nic_neg.mono (by decide) (by decide)
          · exact (nic_bl _).mono (by decide) (by decide)
          · exact (nic_bl _).mono (by decide) (by decide)
          · exact nic_non.mono (by decide) (by decide)
          · exact ⟨_, .str _, ⟨by decide +kernel, by decide +kernel, by decide +kernel⟩, rfl⟩
          · exact (nic_dig (dig_of (by omega) (by omega))).mono (by decide) (by decide)
          · exact (nic_dig (dig_of (by omega) (by omega))).mono (by decide) (by decide)
          · exact (nic_lst (n := 0) (b := 1) (P := fun b => H b = none ∧ b ≠ W ∧ b ≠ S) p1 h1 (by decide) fun u hu => by rw [List.mem_singleton.mp hu]; exact nic_dig (dig_of (by omega) (by omega))).mono (by decide) (by decide)
          · exact nic_big.mono (by decide) (by decide)
        have hosl : ([V.int 0, .int (-1), .bl true, .bl false, .non, .str "5", .int 6, .int 7, .ref l1, .int ((10 : Int) ^ (20 : Int).toNat)] : List V).length = 10 := rfl
        revert hos hosl
        generalize ([V.int 0, .int (-1), .bl true, .bl false, .non, .str "5", .int 6, .int 7, .ref l1, .int ((10 : Int) ^ (20 : Int).toNat)] : List V) = os
        intro hos hosl
        have e4 : Ext1 f H H4 := e03.trans (Ext1.same e03.feed s1)
        have sl : Same H4 (upd H4 l (.lst os)) := sameU nl
        have el := e4.trans (Ext1.same e4.feed sl)
        refine ⟨f, l, os, rfl, el.feed, .inl (.inl upd_same), e4.feed.ne nl, by omega, by omega, fun H5 u e5 hu => ?_⟩
        have ku := ((hos u hu).over (over_same sl)).over (over_ext e5 el.feed fun h => hfP h.1)
        have e5' := el.trans e5
        have hW5 := e5.1 _ _ fW (sl _ _ (s1 _ _ hW))
        have hS5 := e5.1 _ _ fS (sl _ _ (s1 _ _ hS))
        refine ⟨_, rfl, _, rfl, _, rfl, W, _, rfl, .inl (.inl (.inl hW5)), f, _, rfl, e5'.feed, by rw [List.length_map]; omega, by rw [List.length_map]; omega, fun H6 k e6 k0 k1 => ?_⟩
        rw [List.length_map] at k1
        obtain ⟨j, rfl⟩ : ∃ j : Nat, k = (j : Int) := ⟨k.toNat, by omega⟩
        have e6' := e5'.trans e6
        have hW6 := e6.1 _ _ fW hW5
        have hS6 := e6.1 _ _ fS hS5
        have ku := ku.over (over_ext e6 e5'.feed fun h => hfP h.1)
        refine ⟨W, _, (j : Int), j, rfl, rfl, hW6, ?_, ?_⟩
        · rw [List.length_map]
          unfold ixN
          rw [if_pos (by omega), if_pos (by omega)]
          simp
        · refine ⟨.ref W, rfl, e6'.own nW fW, by rw [upd_ne nWS.symm]; exact hS6, .inl ⟨c0, ?_⟩⟩
          have ku2 := ku.over (over_upd (o := .lst ((ds.map V.int).set j u)) hW6 (fun h => h.2.1 rfl))
          refine (nic_lst (n := 1) (b := 21) (P := fun b => H b = none ∧ b ≠ S) ⟨nW, nWS⟩ upd_same (by rw [List.length_set, List.length_map]; omega) fun z hz => ?_).mono (by decide) (by rw [List.length_set, List.length_map]; omega)
          rcases List.mem_or_eq_of_mem_set hz with h | h
          · exact (nic_ints dd_ z h).mono (by decide) (by decide)
          · rw [h]
            exact ku2.imp fun a xs e h => ⟨h.1, h.2.2⟩
      · exact ⟨.ref W, rfl, e03, hS, .inr ⟨fun z => c (by rw [z]; exact decide_eq_true rfl), rfl, hW⟩⟩
    · rintro σ H4 ⟨wV, rfl, e4, hS4, hw⟩
      clear hS hW
      -- way 1
      refine ⟨fun σ H' => ∃ wV y6, σ = [some (.ref f), some (.ref A), some (.ref R), some wV, some (.ref S), some (.int way), y6, none, none, none] ∧ Ext1 f H H' ∧ H' S = some (.lst us) ∧ Nic K (fun b => H b = none ∧ b ≠ S) 5 30000 H' wV, ?_, ?_⟩
      · refine ⟨_, rfl, rfl, _, rfl, ite2 (fun c => ?_) (fun c => ?_)⟩
        · have c1 : way = 1 := by
            have := of_decide_eq_true c
            injection this
          obtain ⟨rfl, hW⟩ : wV = .ref W ∧ H4 W = some (.lst (ds.map V.int)) := by
            rcases hw with ⟨h, _⟩ | ⟨_, h1, h2⟩
            · omega
            · exact ⟨h1, h2⟩
          clear hw
          -- more
          refine ⟨_, rfl, one_, fun l1 nl1 => ⟨l1, 7, [.int 1], rfl, rfl, upd_same, by decide, by decide, by decide, fun p np => ?_⟩⟩
          have s1 := (sameU (o := .lst [.int 1]) nl1).trans (sameU (o := .lst (List.replicate (7 : Int).toNat [V.int 1]).flatten) np)
          have hp : upd (upd H4 l1 (.lst [V.int 1])) p (.lst (List.replicate (7 : Int).toNat [V.int 1]).flatten) p = some (.lst (([1, 1, 1, 1, 1, 1, 1] : List Int).map V.int)) := upd_same
          generalize upd (upd H4 l1 (.lst [V.int 1])) p (.lst (List.replicate (7 : Int).toNat [V.int 1]).flatten) = H5 at *
          refine ⟨W, p, _, _, rfl, rfl, s1 _ _ hW, hp, szL (by rw [List.length_map]; show ds.length + 7 ≤ 1000000; omega), fun M nM => ?_⟩
          have s2 := sameU (o := .lst (ds.map V.int ++ ([1, 1, 1, 1, 1, 1, 1] : List Int).map V.int)) nM
          have hM : upd H5 M (.lst (ds.map V.int ++ ([1, 1, 1, 1, 1, 1, 1] : List Int).map V.int)) M = some (.lst ((ds ++ [1, 1, 1, 1, 1, 1, 1]).map V.int)) := by rw [upd_same, List.map_append]
          generalize upd H5 M (.lst (ds.map V.int ++ ([1, 1, 1, 1, 1, 1, 1] : List Int).map V.int)) = H6 at *
          have ml : (ds ++ [1, 1, 1, 1, 1, 1, 1]).length ≤ 13 := by rw [List.length_append]; show ds.length + 7 ≤ 13; omega
          have md : ∀ x ∈ ds ++ [1, 1, 1, 1, 1, 1, 1], Dig x := fun x hx => (List.mem_append.mp hx).elim (dd_ x) fun h => (by decide : ∀ x ∈ ([1, 1, 1, 1, 1, 1, 1] : List Int), 0 ≤ x ∧ x < 10) x h
          generalize ds ++ [1, 1, 1, 1, 1, 1, 1] = ms at *
          have s6 := s1.trans s2
          have hW6 := s6 _ _ hW
          have hS6 := s6 _ _ hS4
          have e6 := e4.trans (Ext1.same e4.feed s6)
          clear s1 s2 s6 hp hW hS4 nl1 np nM e4
          have fr : ∀ {Hx : Hp} {a : Addr}, Same H6 Hx → Hx a = none → H a = none ∧ a ≠ S := fun s h => ⟨e6.free (s.free h), (ne_of_none (s _ _ hS6) h).symm⟩
          -- the pick
          refine ⟨_, rfl, _, rfl, W, _, rfl, .inl ⟨.inl (.inl hW6), fun l0 nl0 => ⟨Nat.zero_le _, fun l2 nl2 dd nd => ?_⟩⟩⟩
          have g0 := sameU (o := .tup (ds.map V.int)) nl0
          have g1 := sameU (o := .lst []) nl2
          have g2 := sameU (o := .dK []) nd
          have m0 := (g1.trans g2) _ _ (show upd H6 l0 (.tup (ds.map V.int)) l0 = some (.tup (ds.map V.int)) from upd_same)
          have m1 := g2 _ _ (show upd (upd H6 l0 (.tup (ds.map V.int))) l2 (.lst []) l2 = some (.lst []) from upd_same)
          have m2 : upd (upd (upd H6 l0 (.tup (ds.map V.int))) l2 (.lst [])) dd (.dK []) dd = some (.dK []) := upd_same
          have f2 := fr g0 nl2
          have s7 := g0.trans (g1.trans g2)
          clear g0 g1 g2
          generalize upd (upd (upd H6 l0 (.tup (ds.map V.int))) l2 (.lst [])) dd (.dK []) = H7 at *
          refine ⟨_, rfl, 7, rfl, M, _, rfl, .inl (.inl (s7 _ _ hM)), fun l3 nl3 => ?_⟩
          obtain ⟨c3, ec3, lc3, mc3⟩ := cut_ints ms none (some (7 : Int))
          have g3 := sameU (o := .lst (cutV (ms.map V.int) none (some 7))) nl3
          have m3 : upd H7 l3 (.lst (cutV (ms.map V.int) none (some 7))) l3 = some (.lst (c3.map V.int)) := by rw [upd_same, ec3]
          have f3 := fr s7 nl3
          have s8 := s7.trans g3
          have m0 := g3 _ _ m0
          have m1 := g3 _ _ m1
          have m2 := g3 _ _ m2
          generalize upd H7 l3 (.lst (cutV (ms.map V.int) none (some 7))) = H8 at *
          refine ⟨_, rfl, 6, rfl, M, _, rfl, .inl (.inl (s8 _ _ hM)), fun l4 nl4 => ?_⟩
          obtain ⟨c4, ec4, lc4, mc4⟩ := cut_ints ms none (some (6 : Int))
          have g4 := sameU (o := .lst (cutV (ms.map V.int) none (some 6))) nl4
          have m4 : upd H8 l4 (.lst (cutV (ms.map V.int) none (some 6))) l4 = some (.lst (c4.map V.int)) := by rw [upd_same, ec4]
          have f4 := fr s8 nl4
          have s9 := s8.trans g4
          have m0 := g4 _ _ m0
          have m1 := g4 _ _ m1
          have m2 := g4 _ _ m2
          have m3 := g4 _ _ m3
          generalize upd H8 l4 (.lst (cutV (ms.map V.int) none (some 6))) = H9 at *
          refine ⟨_, rfl, one_, fun l5 nl5 => ⟨(by show 10 ≤ sizeLine; decide), fun Z nZ => ?_⟩⟩
          have g5 := sameU (o := .lst [.ref W]) nl5
          have m5 : upd H9 l5 (.lst [V.ref W]) l5 = some (.lst [.ref W]) := upd_same
          have f5 := fr s9 nl5
          have s10 := s9.trans g5
          have m0 := g5 _ _ m0
          have m1 := g5 _ _ m1
          have m2 := g5 _ _ m2
          have m3 := g5 _ _ m3
          have m4 := g5 _ _ m4
          generalize upd H9 l5 (.lst [V.ref W]) = H10 at *
          clear g3 g4 g5 s7 s8 s9
          have hWx := s10 _ _ hW6
          have eA := e6.trans (Ext1.same e6.feed s10)
          have hos : ∀ u ∈ [V.ref l0, .non, .ref l2, .ref dd, .str "", .int 3, .bl true, .ref l3, .ref l4, .ref l5], Nic K (fun b => H b = none ∧ b ≠ S) 5 30000 H10 u := by
            intro u hu
            simp only [List.mem_cons, List.not_mem_nil, or_false] at hu
            rcases hu with rfl | rfl | rfl | rfl | rfl | rfl | rfl | rfl | rfl | rfl
            · exact (nic_tup (n := 0) (b := 1) (.inl (.inl m0)) (by rw [List.length_map]; omega) (nic_ints dd_)).mono (by decide) (by rw [List.length_map]; omega)
            · exact nic_non.mono (by decide) (by decide)
            · exact ⟨_, .lst f2 m1 .nil, sm_nil.mono (by decide) (by decide), rfl⟩
            · exact ⟨_, .dic m2, sm_dic.mono (by decide) (by decide), rfl⟩
            · exact ⟨_, .str _, ⟨by decide +kernel, by decide +kernel, by decide +kernel⟩, rfl⟩
            · exact (nic_dig (dig_of (by omega) (by omega))).mono (by decide) (by decide)
            · exact (nic_bl _).mono (by decide) (by decide)
            · exact (nic_lst (n := 0) (b := 1) (P := fun b => H b = none ∧ b ≠ S) f3 m3 (by rw [List.length_map]; omega) (nic_ints fun x hx => md x (mc3 x hx))).mono (by decide) (by rw [List.length_map]; omega)
            · exact (nic_lst (n := 0) (b := 1) (P := fun b => H b = none ∧ b ≠ S) f4 m4 (by rw [List.length_map]; omega) (nic_ints fun x hx => md x (mc4 x hx))).mono (by decide) (by rw [List.length_map]; omega)
            · refine (nic_lst (n := 1) (b := 100) (P := fun b => H b = none ∧ b ≠ S) f5 m5 (by simp) (fun u hu => ?_)).mono (by decide) (by simp)
              rw [List.mem_singleton.mp hu]
              exact (nic_lst (n := 0) (b := 1) (P := fun b => H b = none ∧ b ≠ S) ⟨nW, nWS⟩ hWx (by rw [List.length_map]; omega) (nic_ints dd_)).mono (by decide) (by rw [List.length_map]; omega)
          have hosl : ([V.ref l0, .non, .ref l2, .ref dd, .str "", .int 3, .bl true, .ref l3, .ref l4, .ref l5] : List V).length = 10 := rfl
          generalize ([V.ref l0, .non, .ref l2, .ref dd, .str "", .int 3, .bl true, .ref l3, .ref l4, .ref l5] : List V) = os at *
          have sZ := sameU (o := .lst os) nZ
          have eZ := eA.trans (Ext1.same eA.feed sZ)
          refine ⟨f, Z, os, rfl, eZ.feed, .inl (.inl upd_same), eA.feed.ne nZ, by omega, by omega, fun H' u e' hu => ?_⟩
          exact ⟨u, _, rfl, eZ.trans e', e'.1 _ _ fS (sZ _ _ (s10 _ _ hS6)), ((hos u hu).over (over_same sZ)).over (over_ext e' eZ.feed fun h => hfP h.1)⟩
        · refine ⟨wV, none, rfl, e4, hS4, ?_⟩
          rcases hw with ⟨_, h⟩ | ⟨_, h1, h2⟩
          · exact h
          · rw [h1]
            exact (nic_lst (n := 0) (b := 1) (P := fun b => H b = none ∧ b ≠ S) ⟨nW, nWS⟩ h2 (by rw [List.length_map]; omega) (nic_ints dd_)).mono (by decide) (by rw [List.length_map]; omega)
      · rintro σ H5 ⟨wV, y6, rfl, e5, hS5, kw⟩
        clear hw hS4 e4 e03 w0 w1
        have kUx : ∀ {Hx : Hp}, Ext1 f H Hx → ∀ u ∈ us, Nic K (fun _ => False) 3 1300 Hx u := fun e u hu => (kU u hu).over (over_ext e hF id)
        -- way 2
        refine ⟨_, rfl, rfl, _, rfl, ite2 (fun c => ?l1) (fun c => ⟨_, rfl, rfl, _, rfl, ite2 (fun c1 => ⟨_, rfl, f, 3, rfl, e5.feed, by decide, by decide, fun Hy k ey k0 k1 => ⟨rfl, _, rfl, ?l2⟩⟩) (fun c1 => ?l3)⟩)⟩
        case' l1 => obtain ⟨Hy, ey, rfl⟩ : ∃ Hy, Ext1 f H5 Hy ∧ Hy = H5 := ⟨H5, Ext1.refl e5.feed, rfl⟩
        case' l3 => obtain ⟨Hy, ey, rfl⟩ : ∃ Hy, Ext1 f H5 Hy ∧ Hy = H5 := ⟨H5, Ext1.refl e5.feed, rfl⟩
        all_goals
          have e := e5.trans ey
          have hSy := ey.1 _ _ fS hS5
          have kwy := kw.over (over_ext ey e5.feed fun h => hfP h.1)
          clear c ey kw hS5
          refine ite2 (fun _ => ?_) (fun _ => ?_)
          · refine ⟨_, rfl, one_, fun t0 nt0 => ⟨two, fun t nt => ⟨one_, fun l1 nl1 => ⟨l1, 7, [.ref t], rfl, rfl, upd_same, by decide, by decide, (by show 1 * 7 ≤ sizeLine; decide), fun p np => ?_⟩⟩⟩⟩
            have y1 := sameU (o := .tup [.int 0]) nt0
            have y2 := sameU (o := .tup [.int 1, .ref t0]) nt
            have y3 := sameU (o := .lst [.ref t]) nl1
            have y4 := sameU (o := .lst (List.replicate (7 : Int).toNat [V.ref t]).flatten) np
            have h1 := (y2.trans (y3.trans y4)) _ _ (show upd Hy t0 (.tup [.int 0]) t0 = some (.tup [.int 0]) from upd_same)
            have h2 := (y3.trans y4) _ _ (show upd (upd Hy t0 (.tup [.int 0])) t (.tup [.int 1, .ref t0]) t = some (.tup [.int 1, .ref t0]) from upd_same)
            have hp : upd (upd (upd (upd Hy t0 (.tup [V.int 0])) t (.tup [.int 1, .ref t0])) l1 (.lst [.ref t])) p (.lst (List.replicate (7 : Int).toNat [V.ref t]).flatten) p = some (.lst ([.ref t, .ref t, .ref t, .ref t, .ref t, .ref t, .ref t])) := upd_same
            have yy := y1.trans (y2.trans (y3.trans y4))
            clear y1 y2 y3 y4 nt0 nt nl1 np
            generalize upd (upd (upd (upd Hy t0 (.tup [V.int 0])) t (.tup [.int 1, .ref t0])) l1 (.lst [.ref t])) p (.lst (List.replicate (7 : Int).toNat [V.ref t]).flatten) = H6 at *
            have hS6 := yy _ _ hSy
            have e6 := e.trans (Ext1.same e.feed yy)
            have kt : Nic K (fun _ => False) 3 1300 H6 (.ref t) := nic_rd (n := (ds.length : Int)) (r := (1, [0])) ⟨t, t0, rfl, .inl (.inl h2), .inl (.inl h1)⟩ ⟨by decide, by decide, by simp, fun x hx => by rw [List.mem_singleton.mp hx]; omega⟩ (by omega) (by omega)
            have kms : ∀ u ∈ us ++ [V.ref t, .ref t, .ref t, .ref t, .ref t, .ref t, .ref t], Nic K (fun _ => False) 3 1300 H6 u := by
              intro u hu
              rcases List.mem_append.mp hu with h | h
              · exact kUx e6 u h
              · simp only [List.mem_cons, List.not_mem_nil, or_false, or_self] at h
                rw [h]
                exact kt
            have kml : (us ++ [V.ref t, .ref t, .ref t, .ref t, .ref t, .ref t, .ref t]).length ≤ 13 := by rw [List.length_append]; show us.length + 7 ≤ 13; omega
            refine ⟨S, p, us, _, rfl, rfl, hS6, hp, szL (by show us.length + 7 ≤ 1000000; omega), fun M nM => ?_⟩
            generalize us ++ [V.ref t, .ref t, .ref t, .ref t, .ref t, .ref t, .ref t] = ms at *
            have s7 := sameU (o := .lst ms) nM
            have hM : upd H6 M (.lst ms) M = some (.lst ms) := upd_same
            have kms : ∀ u ∈ ms, Nic K (fun _ => False) 3 1300 (upd H6 M (.lst ms)) u := fun u hu => (kms u hu).over (over_same s7)
            have hS7 := s7 _ _ hS6
            have e7 := e6.trans (Ext1.same e6.feed s7)
            have kw7 := kwy.over (over_same (yy.trans s7))
            clear yy s7 nM h1 h2 hp kt hS6 e6 e hSy kwy
            generalize upd H6 M (.lst ms) = H7 at *
            have fr : ∀ {Hx : Hp} {a : Addr}, Same H7 Hx → Hx a = none → H a = none := fun s h => e7.free (s.free h)
            refine ⟨_, rfl, _, rfl, S, us, rfl, .inl ⟨.inl (.inl hS7), fun l0 nl0 dd nd => ?_⟩⟩
            have g0 := sameU (o := .tup us) nl0
            have g1 := sameU (o := .dK []) nd
            have m0 := g1 _ _ (show upd H7 l0 (.tup us) l0 = some (.tup us) from upd_same)
            have m2 : upd (upd H7 l0 (.tup us)) dd (.dK []) dd = some (.dK []) := upd_same
            have s8 := g0.trans g1
            clear g0 g1
            generalize upd (upd H7 l0 (.tup us)) dd (.dK []) = H8 at *
            refine ⟨_, rfl, 7, rfl, M, _, rfl, .inl (.inl (s8 _ _ hM)), fun l3 nl3 => ?_⟩
            have g3 := sameU (o := .lst (cutV ms none (some 7))) nl3
            have m3 : upd H8 l3 (.lst (cutV ms none (some 7))) l3 = some (.lst (cutV ms none (some 7))) := upd_same
            have f3 := fr s8 nl3
            have s9 := s8.trans g3
            have m0 := g3 _ _ m0
            have m2 := g3 _ _ m2
            generalize upd H8 l3 (.lst (cutV ms none (some 7))) = H9 at *
            refine ⟨_, rfl, 6, rfl, M, _, rfl, .inl (.inl (s9 _ _ hM)), fun l4 nl4 => ?_⟩
            have g4 := sameU (o := .lst (cutV ms none (some 6))) nl4
            have m4 : upd H9 l4 (.lst (cutV ms none (some 6))) l4 = some (.lst (cutV ms none (some 6))) := upd_same
            have f4 := fr s9 nl4
            have s10 := s9.trans g4
            have m0 := g4 _ _ m0
            have m2 := g4 _ _ m2
            have m3 := g4 _ _ m3
            generalize upd H9 l4 (.lst (cutV ms none (some 6))) = H10 at *
            refine ⟨_, rfl, one_, fun l5 nl5 => ⟨(by show 9 ≤ sizeLine; decide), fun Z nZ => ?_⟩⟩
            have g5 := sameU (o := .lst [.ref S]) nl5
            have m5 : upd H10 l5 (.lst [V.ref S]) l5 = some (.lst [.ref S]) := upd_same
            have f5 := fr s10 nl5
            have s11 := s10.trans g5
            have m0 := g5 _ _ m0
            have m2 := g5 _ _ m2
            have m3 := g5 _ _ m3
            have m4 := g5 _ _ m4
            generalize upd H10 l5 (.lst [V.ref S]) = H11 at *
            clear g3 g4 g5 s8 s9 s10
            have hSx := s11 _ _ hS7
            have kx : ∀ u ∈ ms, Nic K (fun b => H b = none) 3 1300 H11 u := fun u hu => ((kms u hu).over (over_same s11)).imp fun _ _ _ h => h.elim
            have eA := e7.trans (Ext1.same e7.feed s11)
            have ku : ∀ u ∈ us, Nic K (fun b => H b = none) 3 1300 H11 u := fun u hu => (kUx eA u hu).imp fun _ _ _ h => h.elim
            have hcut : ∀ (hi : Option Int), ∀ u ∈ cutV ms none hi, u ∈ ms := fun hi u hu => by
              unfold cutV at hu
              exact List.mem_of_mem_drop (List.mem_of_mem_take hu)
            have hos : ∀ u ∈ [V.ref l0, .non, .ref dd, .str "", .int 3, .bl true, .ref l3, .ref l4, .ref l5], Nic K (fun b => H b = none) 5 30000 H11 u := by
              intro u hu
              simp only [List.mem_cons, List.not_mem_nil, or_false] at hu
              rcases hu with rfl | rfl | rfl | rfl | rfl | rfl | rfl | rfl | rfl
              · exact (nic_tup (n := 3) (b := 1300) (.inl (.inl m0)) (by omega) ku).mono (by decide) (by omega)
              · exact nic_non.mono (by decide) (by decide)
              · exact ⟨_, .dic m2, sm_dic.mono (by decide) (by decide), rfl⟩
              · exact ⟨_, .str _, ⟨by decide +kernel, by decide +kernel, by decide +kernel⟩, rfl⟩
              · exact (nic_dig (dig_of (by omega) (by omega))).mono (by decide) (by decide)
              · exact (nic_bl _).mono (by decide) (by decide)
              · have := cut_le ms none (some 7)
                exact (nic_lst (n := 3) (b := 1300) (P := fun b => H b = none) f3 m3 (by omega) (fun u hu => kx u (hcut _ u hu))).mono (by decide) (by omega)
              · have := cut_le ms none (some 6)
                exact (nic_lst (n := 3) (b := 1300) (P := fun b => H b = none) f4 m4 (by omega) (fun u hu => kx u (hcut _ u hu))).mono (by decide) (by omega)
              · refine (nic_lst (n := 4) (b := 8000) (P := fun b => H b = none) f5 m5 (by simp) (fun u hu => ?_)).mono (by decide) (by simp)
                rw [List.mem_singleton.mp hu]
                exact (nic_lst (n := 3) (b := 1300) (P := fun b => H b = none) nS0 hSx (by omega) ku).mono (by decide) (by omega)
            have hosl : ([V.ref l0, .non, .ref dd, .str "", .int 3, .bl true, .ref l3, .ref l4, .ref l5] : List V).length = 9 := rfl
            generalize ([V.ref l0, .non, .ref dd, .str "", .int 3, .bl true, .ref l3, .ref l4, .ref l5] : List V) = os at *
            have sZ := sameU (o := .lst os) nZ
            have eZ := eA.trans (Ext1.same eA.feed sZ)
            refine ⟨f, Z, os, rfl, eZ.feed, .inl (.inl upd_same), eA.feed.ne nZ, by omega, by omega, fun H' u e' hu => ?_⟩
            have k1 := ((hos u hu).over (over_same sZ)).over (over_ext e' eZ.feed hfP)
            have k2 := ((kw7.imp (P' := fun b => H b = none) fun _ _ _ h => h.1).over (over_same (s11.trans sZ))).over (over_ext e' eZ.feed hfP)
            have eF := eZ.trans e'
            refine ⟨_, rfl, _, rfl, two, fun o no => ?_⟩
            exact q _ o wV u (eF.new no) (eF.free no) upd_same (k2.over (over_same (sameU no))) (k1.over (over_same (sameU no)))
          · refine ⟨_, rfl, (by show 5 ≤ sizeLine; decide), fun l nl => ⟨f, l, [0, 1, 1, 2, 3].map V.int, rfl, (Ext1.new (Ext1.refl e.feed) nl).feed, .inl (.inl upd_same), e.feed.ne nl, by decide, by decide, fun H7 v e7 hv => ?_⟩⟩
            obtain ⟨z, rfl, hz⟩ := mem_map_int hv
            have hz3 : 0 ≤ z ∧ z ≤ 3 := (by decide : ∀ x ∈ ([0, 1, 1, 2, 3] : List Int), 0 ≤ x ∧ x ≤ 3) z hz
            have e7' : Ext1 f Hy H7 := (Ext1.new (Ext1.refl e.feed) nl).trans e7
            have hS7 := e7'.1 _ _ fS hSy
            have kw7 := kwy.over (over_ext e7' e.feed fun h => hfP h.1)
            have ey7 := e.trans e7'
            refine ⟨z, rfl, by omega, by omega, ?_⟩
            refine for_range (lo := 0) (n := z.toNat) (fun i σ H' => ∃ y7 y8 y9 : Option V, σ = [some (.ref f), some (.ref A), some (.ref R), some wV, some (.ref S), some (.int way), y6, y7, y8, y9] ∧ Ext1 f H H' ∧ (∃ xs : List V, H' S = some (.lst xs) ∧ xs.length ≤ 6 + i ∧ ∀ u ∈ xs, Nic K (fun b => H b = none ∧ b ≠ S) 3 1300 H' u) ∧ Nic K (fun b => H b = none ∧ b ≠ S) 5 30000 H' wV) ⟨none, none, none, rfl, ey7, ⟨us, hS7, by omega, fun u hu => (kUx ey7 u hu).imp fun _ _ _ h => h.elim⟩, kw7⟩ ?_ ?_
            · rintro i σ H8 hi ⟨y7, y8, y9, rfl, e8, ⟨xs, hS8, xl, kxs⟩, kw8⟩
              have hi3 : i < 3 := by omega
              clear hSy kwy e7 e7' hS7 kw7 ey7 hv hz nl e
              have hR8 := e8.1 _ _ fR bk.rd
              -- reader
              refine ⟨_, rfl, _, rfl, one_, fun t0 nt0 => ⟨two, fun t nt => ⟨one_, fun l1 nl1 => ?_⟩⟩⟩
              have y1 := sameU (o := .tup [.int 0]) nt0
              have y2 := sameU (o := .tup [.int 1, .ref t0]) nt
              have y3 := sameU (o := .lst [.ref t]) nl1
              have h1 := (y2.trans y3) _ _ (show upd H8 t0 (.tup [.int 0]) t0 = some (.tup [.int 0]) from upd_same)
              have h2 := y3 _ _ (show upd (upd H8 t0 (.tup [.int 0])) t (.tup [.int 1, .ref t0]) t = some (.tup [.int 1, .ref t0]) from upd_same)
              have h3 : upd (upd (upd H8 t0 (.tup [V.int 0])) t (.tup [.int 1, .ref t0])) l1 (.lst [.ref t]) l1 = some (.lst [.ref t]) := upd_same
              have yy := y1.trans (y2.trans y3)
              clear y1 y2 y3 nt0 nt nl1
              generalize upd (upd (upd H8 t0 (.tup [V.int 0])) t (.tup [.int 1, .ref t0])) l1 (.lst [.ref t]) = H9 at *
              refine ⟨R, l1, us, _, rfl, rfl, yy _ _ hR8, h3, szL (by show us.length + 1 ≤ 1000000; omega), fun M nM => ?_⟩
              have s10 := sameU (o := .lst (us ++ [.ref t])) nM
              have hM : upd H9 M (.lst (us ++ [.ref t])) M = some (.lst (us ++ [.ref t])) := upd_same
              have rt : RdT K (upd H9 M (.lst (us ++ [.ref t]))) (.ref t) (1, [0]) := ⟨t, t0, rfl, .inl (.inl (s10 _ _ h2)), .inl (.inl (s10 _ _ h1))⟩
              have fM : M ≠ f := ((Ext1.same e8.feed yy).feed).ne nM
              have e10 := e8.trans (Ext1.same e8.feed (yy.trans s10))
              have kxs := fun u hu => (kxs u hu).over (over_same (yy.trans s10))
              have kw8 := kw8.over (over_same (yy.trans s10))
              have hS10 := (yy.trans s10) _ _ hS8
              clear h1 h2 h3 yy s10 hS8 e8 hR8 nM
              generalize upd H9 M (.lst (us ++ [V.ref t])) = H10 at *
              have rds : ∀ v ∈ us ++ [V.ref t], ∃ r, RdT K H10 v r ∧ RdOk (ds.length : Int) r := by
                intro v hv
                rcases List.mem_append.mp hv with h | h
                · obtain ⟨ix, hix⟩ := List.getElem?_of_mem h
                  obtain ⟨r, hr2, rv⟩ := Paired.at1 bk.rds hix
                  exact ⟨r, rv.ext e10 hF, bk.ok r (List.mem_of_getElem? hr2)⟩
                · rw [List.mem_singleton.mp h]
                  exact ⟨_, rt, by decide, by decide, by simp, fun x hx => by rw [List.mem_singleton.mp hx]; omega⟩
              refine ⟨f, M, us ++ [.ref t], rfl, e10.feed, .inl (.inl hM), fM, by rw [List.length_append]; show 0 < us.length + 1; omega, by rw [List.length_append]; show us.length + 1 < 1000; omega, fun H11 rv e11 hrv => ?_⟩
              obtain ⟨r, hr_, ro⟩ := rds rv hrv
              have hr_ := hr_.ext e11 e10.feed
              have eB := e10.trans e11
              have hS11 := e11.1 _ _ fS hS10
              have kxs := fun u hu => (kxs u hu).over (over_ext e11 e10.feed fun h => hfP h.1)
              have kw8 := kw8.over (over_ext e11 e10.feed fun h => hfP h.1)
              clear rt hM rds hrv hS10 e10 e11
              -- at
              refine ⟨_, rfl, _, rfl, S, xs, rfl, .inl (.inl (.inl hS11)), _, _, rfl, rfl, f, _, rfl, eB.feed, by omega, by omega, fun H12 at_ e12 a0 a1 => ?_⟩
              obtain ⟨j, rfl⟩ : ∃ j : Nat, at_ = (j : Int) := ⟨at_.toNat, by omega⟩
              have eC := eB.trans e12
              have hr_ := hr_.ext e12 eB.feed
              have hS12 := e12.1 _ _ fS hS11
              have kxs := fun u hu => (kxs u hu).over (over_ext e12 eB.feed fun h => hfP h.1)
              have kw8 := kw8.over (over_ext e12 eB.feed fun h => hfP h.1)
              clear e12 hS11 eB
              -- some[at:..] = [..]
              refine ⟨_, rfl, _, rfl, _, rfl, A, _, rfl, .inl (.inl (.inl (eC.1 _ _ fA bk.dem))), f, rv, r, (ds.length : Int), by rw [List.length_map]; rfl, eC.feed, hr_, ro, by omega, by omega, fun H13 u e13 ku => ⟨one_, fun b nb => ?_⟩⟩
              have eD := eC.trans e13
              have hS13 := e13.1 _ _ fS hS12
              have ku : Nic K (fun b => H b = none ∧ b ≠ S) 3 1300 H13 u := ku.imp fun a _ _ h => ⟨eC.free h, (ne_of_none hS12 h).symm⟩
              have kxs := fun u hu => (kxs u hu).over (over_ext e13 eC.feed fun h => hfP h.1)
              have kw8 := kw8.over (over_ext e13 eC.feed fun h => hfP h.1)
              have s14 := sameU (o := .lst [u]) nb
              have hb : upd H13 b (.lst [u]) b = some (.lst [u]) := upd_same
              have fb : b ≠ f := eD.feed.ne nb
              have nSb : S ≠ b := ne_of_none hS13 nb
              have eE := eD.trans (Ext1.same eD.feed s14)
              have ku := ku.over (over_same s14)
              have kxs := fun u hu => (kxs u hu).over (over_same s14)
              have kw8 := kw8.over (over_same s14)
              have hS14 := s14 _ _ hS13
              clear s14 nb hS13 eD e13 eC hS12 hr_
              generalize upd H13 b (.lst [u]) = H14 at *
              refine ⟨_, rfl, _, rfl, _, rfl, _, rfl, _, rfl, f, 2, rfl, eE.feed, by decide, by decide, fun H15 k e15 k0 k1 => ⟨_, _, rfl, rfl, _, rfl, ?_⟩⟩
              obtain ⟨k', rfl⟩ : ∃ k' : Nat, k = (k' : Int) := ⟨k.toNat, by omega⟩
              have hS15 := e15.1 _ _ fS hS14
              have ku := ku.over (over_ext e15 eE.feed fun h => hfP h.1)
              have kxs := fun u hu => (kxs u hu).over (over_ext e15 eE.feed fun h => hfP h.1)
              have kw8 := kw8.over (over_ext e15 eE.feed fun h => hfP h.1)
              have eG := eE.trans e15
              refine ⟨S, b, xs, [u], j, j + k', rfl, rfl, rfl, congrArg some (by omega), hS15, e15.1 _ _ fb hb, nSb, by omega, by omega, szL (by show xs.length + 1 ≤ 1000000; omega), ?_⟩
              have nP : ¬ (H S = none ∧ S ≠ S) := fun h => h.2 rfl
              refine ⟨_, _, _, rfl, eG.own nS0 fS, ⟨_, upd_same, ?_, fun v hv => ?_⟩, kw8.over (over_upd hS15 nP)⟩
              · rw [List.length_append, List.length_append, List.length_take, List.length_drop]
                show min j xs.length + 1 + (xs.length - (j + k')) ≤ 6 + (i + 1)
                omega
              · refine Nic.over (over_upd hS15 nP) ?_
                rcases List.mem_append.mp hv with h | h
                · rcases List.mem_append.mp h with h | h
                  · exact kxs v (List.mem_of_mem_take h)
                  · rw [List.mem_singleton.mp h]; exact ku
                · exact kxs v (List.mem_of_mem_drop h)
            · rintro σ H8 ⟨y7, y8, y9, rfl, e8, ⟨xs, hS8, xl, kxs⟩, kw8⟩
              have xl9 : xs.length ≤ 9 := by omega
              refine ⟨_, rfl, _, rfl, two, fun o no => ?_⟩
              have so := sameU (o := .lst [wV, .ref S]) no
              refine q _ o wV (.ref S) (e8.new no) (e8.free no) upd_same ((kw8.imp fun _ _ _ h => h.1).over (over_same so)) ?_
              exact (nic_lst (n := 3) (b := 1300) (P := fun b => H b = none) nS0 (so _ _ hS8) (by omega) (fun u hu => ((kxs u hu).imp fun _ _ _ h => h.1).over (over_same so))).mono (by decide) (by omega)
end
end Ew
namespace Ew
open PySem PySem.Spec PyProof.Rows L2
abbrev sBkLen : Stmt := (inClass (top 13) 3)
def spBkLen (K : PySem.W.Frag) (C : Addr) : Sp := fun vs H Q _ => ∃ (f x : Addr) (ds : List Int) (us : List V) (rs : List (Int × List Int)), vs = [.ref x] ∧ IsBook K C f H x ds us rs ∧ Q (.int ds.length) H
/-! ### what makes a book, once more -/
theorem due_none {d1 d2 : PyData} (h : dueD d1 d2 = none) : ∃ es1 es2, d1 = .list es1 ∧ d2 = .list es2 ∧ 1 ≤ es1.length ∧ es1.length ≤ 6 ∧ es1.all amtD = true ∧ es2.length ≤ 6 ∧ firstBad (es1.length : Int) 0 es2 = none := by
  unfold dueD at h
  by_cases h1 : demOk d1 = true
  · rw [if_pos h1] at h
    cases d1 with
    | list es1 =>
      have h1' : (decide (1 ≤ es1.length ∧ es1.length ≤ 6) && es1.all amtD) = true := h1
      have h2 := Bool.and_eq_true_iff.mp h1'
      have h3 := of_decide_eq_true h2.1
      cases d2 with
      | list es2 =>
        dsimp only at h
        by_cases h4 : es2.length ≤ 6
        · rw [if_pos h4] at h
          refine ⟨es1, es2, rfl, rfl, h3.1, h3.2, h2.2, h4, ?_⟩
          have h' : (firstBad (es1.length : Int) 0 es2).map some = none := h
          cases e : firstBad (es1.length : Int) 0 es2 with
          | none => rfl
          | some j => rw [e] at h'; cases h'
        · rw [if_neg h4] at h
          cases h
      | _ => cases h
    | _ => cases h1
  · rw [if_neg h1] at h
    cases h
theorem firstBad_lt {n : Int} : ∀ {l : List PyData} {k j : Nat}, firstBad n k l = some j → j < k + l.length
  | d :: l, k, j, h => by
    have h' : (if isRdD n d = true then firstBad n (k + 1) l else some k) = some j := h
    split at h'
    · have := firstBad_lt h'
      rw [List.length_cons]
      omega
    · cases h'
      rw [List.length_cons]
      omega
theorem firstBad_none {n : Int} : ∀ {l : List PyData} {k : Nat}, firstBad n k l = none → ∀ d ∈ l, isRdD n d = true
  | [], k, h, d, hd => by simp at hd
  | x :: l, k, h, d, hd => by
    have h' : (if isRdD n x = true then firstBad n (k + 1) l else some k) = none := h
    split at h'
    · rename_i hx
      rcases List.mem_cons.mp hd with e | e
      · rw [e]; exact hx
      · exact firstBad_none h' d e
    · cases h'
theorem due_dig {d1 d2 : PyData} {k : Nat} (h : dueD d1 d2 = some (some k)) : Dig (k : Int) := by
  unfold dueD at h
  split at h
  · cases d2 with
    | list es2 =>
      dsimp only at h
      split at h
      · cases e : firstBad (sizeD d1) 0 es2 with
        | none => rw [e] at h; cases h
        | some j =>
          rw [e] at h
          cases h
          have := firstBad_lt e
          refine ⟨by omega, ?_⟩
          omega
      · cases h
    | _ => cases h
  · cases h
section
variable {K : PySem.W.Frag} {P : Addr → Prop} {H : Hp}
theorem dem_ints : ∀ {xs : List V} {es : List PyData}, DqA K P H xs es → es.all amtD = true → ∃ ds : List Int, xs = ds.map V.int ∧ es.length = ds.length ∧ ∀ d ∈ ds, 0 ≤ d ∧ d ≤ 6
  | [], [], _, _ => ⟨[], rfl, rfl, fun d h => by simp at h⟩
  | x :: xs, e :: es, .cons a t, h => by
    have h' : amtD e = true ∧ es.all amtD = true := Bool.and_eq_true_iff.mp h
    obtain ⟨ds, h1, h2, h3⟩ := dem_ints t h'.2
    cases a with
    | int i =>
      have h4 : (decide (0 ≤ i) && decide (i ≤ 6)) = true := h'.1
      have h5 := Bool.and_eq_true_iff.mp h4
      have h6 := of_decide_eq_true h5.1
      have h7 := of_decide_eq_true h5.2
      refine ⟨i :: ds, by rw [h1]; rfl, by rw [List.length_cons, List.length_cons, h2], fun d hd => ?_⟩
      rcases List.mem_cons.mp hd with q | q
      · rw [q]; exact ⟨h6, h7⟩
      · exact h3 d q
    | _ => cases h'.1
theorem rds_of {n : Int} : ∀ {ys : List V} {es : List PyData}, DqA K P H ys es → (∀ e ∈ es, isRdD n e = true) → ∃ rs : List (Int × List Int), Paired (RdT K H) ys rs ∧ RdsAt n rs ∧ rs.length = es.length
  | [], [], _, _ => ⟨[], .nil, fun d h => by simp at h, rfl⟩
  | y :: ys, e :: es, .cons a t, h => by
    obtain ⟨rs, h1, h2, h3⟩ := rds_of t fun x hx => h x (by simp [hx])
    have h0 := h e (by simp)
    cases a with
    | @tup b us fs q ha =>
      cases ha with
      | nil => cases h0
      | @cons y l ys' ls hy t1 =>
        cases t1 with
        | nil => cases h0
        | @cons z m zs ms hz t2 =>
          cases t2 with
          | cons _ _ => cases h0
          | nil =>
            have h4 : (amtD l && ascD n m) = true := h0
            have h5 := Bool.and_eq_true_iff.mp h4
            cases hy with
            | int i =>
              have h6 : (decide (0 ≤ i) && decide (i ≤ 6)) = true := h5.1
              have h7 := Bool.and_eq_true_iff.mp h6
              have h8 := of_decide_eq_true h7.1
              have h9 := of_decide_eq_true h7.2
              cases hz with
              | @tup b' us' fs' q' ha' =>
                have h10 : (match intsOf fs' with | some w => ascI n (-1) w | none => false) = true := h5.2
                cases he : intsOf fs' with
                | none => rw [he] at h10; cases h10
                | some w =>
                  rw [he] at h10
                  obtain ⟨f1, f2⟩ := ints_of ha' he
                  subst f1
                  have h11 := ascI_iff.mp h10
                  refine ⟨(i, w) :: rs, .cons ⟨b, b', rfl, q, q'⟩ h1, fun r hr => ?_, by rw [List.length_cons, List.length_cons, h3]⟩
                  rcases List.mem_cons.mp hr with e | e
                  · rw [e]
                    exact ⟨h8, h9, h11.1, fun x hx => by have := h11.2 x hx; omega⟩
                  · exact h2 r e
              | _ => cases h5.2
            | _ => cases h5.1
    | _ => cases h0
end
def dB2 (ds : List Int) (rs : List (Int × List Int)) : PyData := .list [dI ds, dRs rs]
theorem lay_dI (l : List Int) : PyData.canLay0 (dI l) = true := layAll_map PyData.int (fun _ => rfl) l
theorem lay_dRs (rs : List (Int × List Int)) : PyData.canLay0 (dRs rs) = true := layAll_map dR lay_dR rs
theorem lay_dB2 (ds rs) : PyData.canLay0 (dB2 ds rs) = true := by
  show (PyData.canLay0 (dI ds) && (PyData.canLay0 (dRs rs) && true)) = true
  rw [lay_dI, lay_dRs]
  rfl
theorem shp_dB2 (ds rs) : SeqAt.shaped (dB2 ds rs) = true := by
  refine shp (n := 4) (lay_dB2 ds rs) ?_ (by decide)
  show max (PyData.depth (dI ds)) (max (PyData.depth (dRs rs)) 0) + 1 ≤ 4
  have h1 : PyData.depth (dI ds) ≤ 1 := Nat.succ_le_succ (depAll_map PyData.int (n := 0) (fun _ => Nat.le_refl _) ds)
  have h2 : PyData.depth (dRs rs) ≤ 3 := Nat.succ_le_succ (depAll_map dR dep_dR rs)
  omega
def plD : Option Nat → PyData
  | none => .none
  | some k => .int (k : Int)
theorem dp_pl {K : PySem.W.Frag} {H : Hp} : ∀ pl : Option Nat, Dp K H (plV pl) (plD pl)
  | none => .non
  | some _ => .int _
theorem sm_pl : ∀ {pl : Option Nat}, (∀ k, pl = some k → Dig (k : Int)) → Sm 0 4 (plD pl)
  | none, _ => sm_non
  | some k, h => (sm_dig (h k rfl)).mono (by decide) (by decide)
theorem pl_ne : ∀ pl : Option Nat, dueV (some pl) ≠ V.str "book"
  | none => fun h => by cases h
  | some _ => fun h => by cases h
theorem pl_scal : ∀ pl : Option Nat, scal (dueV (some pl)) (V.str "book") = true
  | none => rfl
  | some _ => rfl
structure Own1 (K : PySem.W.Frag) (mg : Str → Option Value) : Prop where
  set : mg "set" = none
  num : ∃ f fd, Fun K "_law_is_number" "_law_is_number" sNum f fd ∧ Binds K fd ["value", "least", "greatest"] [] ∧ mg "_law_is_number" = some (.ref f)
  rd : ∃ f fd, Fun K "_law_is_reader" "_law_is_reader" sLRd f fd ∧ Binds K fd ["value", "works"] [] ∧ mg "_law_is_reader" = some (.ref f)
  due : ∃ f fd, Fun K "_law_due" "_law_due" sDue f fd ∧ Binds K fd ["demands", "readers"] [] ∧ mg "_law_due" = some (.ref f)
  odd : ∃ f fd, Fun K "_law_odd" "_law_odd" sOdd f fd ∧ Binds K fd ["feed", "reader", "works"] [] ∧ mg "_law_odd" = some (.ref f)
  near : ∃ f fd, Fun K "_law_near" "_law_near" sNear1 f fd ∧ Binds K fd ["feed", "demands", "readers"] [] ∧ mg "_law_near" = some (.ref f)
  told : ∃ f fd, Fun K "_law_told_so" "_law_told_so" sTold f fd ∧ Binds K fd ["demands", "readers"] [] ∧ mg "_law_told_so" = some (.ref f)
def LenOf (K : PySem.W.Frag) (C : Addr) : Prop := ∃ f fd, Fun K "__len__" "Book.__len__" sBkLen f fd ∧ Binds K fd ["self"] [] ∧ Meth K C "__len__" f
section
variable {P : Program} {w : World} {K : PySem.W.Frag} {mg : Str → Option Value} {base : Heap} {C BB RE : Addr}
theorem scBkLen : FnScope ["self"] ["self"] (defScope sBkLen) := ⟨rfl, rfl, rfl, by decide +kernel, rfl, by decide +kernel, by decide +kernel⟩
theorem ok_bkLen {f : Addr} {fd : FuncData} (F : Fun K "__len__" "Book.__len__" sBkLen f fd) (B : Bi mg) (T : BookTxt K mg C) : FnOk P w K mg base CX0 1 f fd ["self"] (spBkLen K C) := by
  refine F.ok scBkLen (fun vs H Q E h => ?_) (fun cdv A outer s H vs Q E hr h => ?_)
  · obtain ⟨f, x, ds, us, rs, rfl, _⟩ := h
    rfl
  · obtain ⟨f, x, ds, us, rs, rfl, ⟨dx, A, R, h1, h2, h3, h4, h5, h6⟩, q⟩ := h
    refine ⟨_, pss_one (ps_ret (pe_callB call_len_seq (by rfl) B.len PySem.boot_len (pa_cons (pe_fld (pv 0) rfl) pa_nil))), ?_⟩
    refine ⟨_, rfl, x, C, dx, _, _, rfl, h1, T.cl, T.nD, bf_dem _ _, A, _, rfl, .inl (.inl (.inl h2)), ?_⟩
    rw [List.length_map]
    exact q
theorem scLaw : FnScope ["script", "k", "feed", "demands", "readers", "turn", "value", "shown", "due", "found", "copies"] ["script"] (defScope sLaw) := ⟨rfl, rfl, rfl, by decide +kernel, rfl, by decide +kernel, by decide +kernel⟩
theorem ok_law {f : Addr} {fd : FuncData} (F : Fun K "law" "law" sLaw f fd) (L : Low K mg) (V1 : Vals1 K mg) (T : BookTxt K mg C) (N : NoBook K C) (TB : BBTxt K mg BB RE) (LT : LenOf K C) (O : Own1 K mg) (hb0 : ∃ o, base.get? sysModules = some o) : FnOkG P w K mg base 7 f fd ["script"] (spLaw K) := by
  have L' := L
  have B := L.bi
  obtain ⟨_, ⟨fF, fdF, FF, bF, gF⟩, _, _, _, _, _, ⟨fB, fdB, FB, bB, gB⟩⟩ := L'
  obtain ⟨fI, fdI, FI, bI, mk⟩ := T.init
  obtain ⟨fD, fdD, FD, bD, mD⟩ := T.dem
  obtain ⟨fR, fdR, FR, bR, mR⟩ := T.rd
  obtain ⟨fE, fdE, FE, bE, mE⟩ := T.eq
  obtain ⟨fL, fdL, FL, bL, mL⟩ := LT
  obtain ⟨Bs, ⟨fn, fdn, Fn, bn, gn⟩, ⟨fr, fdr, Fr, br, gr⟩, ⟨fU, fdU, FU, bU, gU⟩, ⟨fO, fdO, FO, bO, gO⟩, ⟨fN, fdN, FN, bN, gN⟩, ⟨fT, fdT, FT, bT, gT⟩⟩ := O
  have GF : FnOk P w K mg base CX0 1 fF fdF ["script", "k"] (spFeed K) := ok_feed FF B
  have GB : FnOk P w K mg base CX0 4 fB fdB ["feed", "most_works", "most_readers"] (spBook K) := ok_book FB L
  have GI : FnOk P w K mg base CX0 4 fI fdI ["self", "demands", "readers"] (spBkInit K C) := ok_bkInit FI V1 T
  have GD : FnOk P w K mg base CX0 1 fD fdD ["self"] (spBkDem K C) := ok_bkDem FD B T
  have GR : FnOk P w K mg base CX0 1 fR fdR ["self"] (spBkRd K C) := ok_bkRd FR B T
  have GE : FnOk P w K mg base CX0 1 fE fdE ["self", "other"] (spBkEq K C) := ok_bkEq FE B T N
  have GL : FnOk P w K mg base CX0 1 fL fdL ["self"] (spBkLen K C) := ok_bkLen FL B T
  have GU : FnOk P w K mg base CX0 3 fU fdU ["demands", "readers"] (spDue K) := ok_due FU B Bs Fn bn gn Fr br gr
  have GN : FnOk P w K mg base CX0 4 fN fdN ["feed", "demands", "readers"] (spNear1 K) := ok_near1 FN L FO bO gO
  have GT : FnOk P w K mg base CX0 6 fT fdT ["demands", "readers"] (spTold K C) := ok_told FT V1 T TB
  refine okG F scLaw (fun vs H Q E h => ?_) (fun cdv A outer s H vs Q E hgd hr h => ?_)
  · obtain ⟨a, ns, rfl, _⟩ := h
    rfl
  · obtain ⟨a, ns, rfl, hS, hlen, q⟩ := h
    have hr1 : Room 1 _ := hr.mono (by decide)
    have hr2 : Room 2 _ := hr.mono (by decide)
    have hr3 : Room 3 _ := hr.mono (by decide)
    have hr4 : Room 4 _ := hr.mono (by decide)
    have hr5 : Room 5 _ := hr.mono (by decide)
    refine ⟨_, (pss_cons (ps_for PassesOwn.never rfl (pi_range1 rfl B.range (pa_cons (pe_callB (call_max2 rfl) (by rfl) B.max (by decide +kernel) (pa_cons pe_int (pa_cons (pe_callB (call_min2 rfl) (by rfl) B.min (by decide +kernel) (pa_cons pe_int (pa_cons (pe_callB call_len_seq (by rfl) B.len PySem.boot_len (pa_cons (pv 0) pa_nil)) pa_nil))) pa_nil))) pa_nil)) (pg_name (i := 1) scLaw.nd rfl (.inl rfl))
  (pss_cons (ps_set (i := 2) scLaw.nd rfl (.inl rfl) (pe_call GF hr1 (by rfl) gF FF.kp bF .nil pass0 (pa_cons (pv 0) (pa_cons (pv 1) pa_nil))))
 (pss_cons (ps_asg (pe_call GB hr4 (by rfl) gB FB.kp bB .nil pass0 (pa_cons (pv 2) (pa_cons pe_int (pa_cons pe_int pa_nil)))) (pg_unl (by rfl) (pgs_cons (pg_name (i := 3) scLaw.nd rfl (.inl rfl)) (pgs_cons (pg_name (i := 4) scLaw.nd rfl (.inl rfl)) pgs_nil))))
 (pss_one (ps_for PassesOwn.never rfl (pi_range1 rfl B.range (pa_cons pe_int pa_nil)) (pg_name (i := 5) scLaw.nd rfl (.inl rfl))
    (pss_cons (ps_set (i := 6) scLaw.nd rfl (.inl rfl) (pe_call GN hr4 (by rfl) gN FN.kp bN .nil pass0 (pa_cons (pv 2) (pa_cons (pv 3) (pa_cons (pv 4) pa_nil)))))
 (pss_cons (ps_par (i := 7) (j := 8) (by rfl) scLaw.nd rfl rfl (by decide) rfl rfl (pa_cons (pe_callB (call_reprQ hb0 hgd hr.units) (by rfl) B.repr (by decide +kernel) (pa_cons (pv 6) pa_nil))
        (pa_cons (pe_call GU hr3 (by rfl) gU FU.kp bU .nil pass0 (pa_cons (pe_ix ix_list (pv 6) pe_int (fun _ _ => rfl)) (pa_cons (pe_ix ix_list (pv 6) pe_int (fun _ _ => rfl)) pa_nil))) pa_nil)) (by rfl))
 (pss_cons (ps_set (i := 9) scLaw.nd rfl (.inl rfl) (pe_call GT hr (by rfl) gT FT.kp bT .nil pass0 (pa_cons (pe_ix ix_list (pv 6) pe_int (fun _ _ => rfl)) (pa_cons (pe_ix ix_list (pv 6) pe_int (fun _ _ => rfl)) pa_nil))))
 (pss_cons (ps_if (PW.pt (pw_or (pt_cmpR op_ne (pe_callB (call_reprQ hb0 hgd hr.units) (by rfl) B.repr (by decide +kernel) (pa_cons (pv 6) pa_nil)) (pv 7) (nomark _))
        (pw_or1 (PW.pt (pw_and (pt_cmpR op_ne (pv 8) pe_str (nomark _)) (pw_and1 (pt_cmpR op_ne (pe_callB (call_repr hgd hr.units) (by rfl) B.repr (by decide +kernel) (pa_cons (pv 9) pa_nil)) (pe_callB (call_repr hgd hr.units) (by rfl) B.repr (by decide +kernel) (pa_cons (pv 8) pa_nil)) (nomark _)))))))) (pss_one (ps_ret pe_bl)) pss_nil)
 (pss_one (ps_if (pt_cmpR op_eq (pv 8) pe_str (nomark _))
        (pss_cons (ps_set (i := 10) scLaw.nd rfl (.inl rfl) (pe_lst (pa_cons (pe_callTy call_list_of (by rfl) B.list (by decide +kernel) (pa_cons (pe_ix ix_list (pv 6) pe_int (fun _ _ => rfl)) pa_nil)) (pa_cons (pe_callTy call_list_of (by rfl) B.list (by decide +kernel) (pa_cons (pe_ix ix_list (pv 6) pe_int (fun _ _ => rfl)) pa_nil)) pa_nil))))
 (pss_cons (ps_asg pe_non (pg_sub (pe_ix ix_list (pv 6) pe_int (fun _ _ => rfl)) pe_int set_list))
 (pss_cons (ps_expr (pe_bm PySem.F.plainAttrs_list PySem.F.slot_list_append PySem.F.type_list_append mt_append (pe_ix ix_list (pv 6) pe_int (fun _ _ => rfl)) (pa_cons pe_non pa_nil)))
 (pss_cons (ps_if (PW.pt (pw_or (pt_not (pt_val (pe_callB call_isi (by rfl) B.isinstance (by decide +kernel) (pa_cons (pv 9) (pa_cons (pe_glob (v := .ref C) (by rfl) T.mgC rfl) pa_nil)))))
            (pw_or1 (pt_cmpR (op_neD hr.units) (pe_lst (pa_cons (pe_meth0 (pv 9) T.cl mD GD hr1 bD .nil pass0) (pa_cons (pe_meth0 (pv 9) T.cl mR GR hr1 bR .nil pass0) pa_nil))) (pv 10) (nomark _))))) (pss_one (ps_ret pe_bl)) pss_nil)
 (pss_one (ps_if (PW.pt (pw_or (pt_cmpR op_ne (pe_callB (call_lenOwn GL hr2 mL.at_ mL.fn bL) (by rfl) B.len PySem.boot_len (pa_cons (pv 9) pa_nil)) (pe_callB call_len_seq (by rfl) B.len PySem.boot_len (pa_cons (pe_ix ix_list (pv 10) pe_int (fun _ _ => rfl)) pa_nil)) (nomark _))
            (pw_or1 (pt_not (pt_cmpR (op_eqOwn GE hr1 mE.at_ mE.fn bE) (pv 9) (pe_make mk GI hr5 (by rfl) T.mgC bI .nil pass0 (pa_cons (pe_ix ix_list (pv 10) pe_int (fun _ _ => rfl)) (pa_cons (pe_ix ix_list (pv 10) pe_int (fun _ _ => rfl)) pa_nil))) (nomark _)))))) (pss_one (ps_ret pe_bl)) pss_nil)))))) pss_nil)))))))))))
 (pss_one (ps_ret pe_bl))), ?_⟩
    have one_ : 1 ≤ sizeLine := by decide
    have two : 2 ≤ sizeLine := by decide
    refine ⟨_, rfl, a, _, rfl, .inl hS, _, _, rfl, _, _, rfl, _, rfl, (by split <;> (try split) <;> omega), (by split <;> (try split) <;> omega), ?_⟩
    refine for_range (lo := 0) (fun i σ H' => ∃ y1 y2 y3 y4 y5 y6 y7 y8 y9 y10 : Option V, σ = [some (.ref a), y1, y2, y3, y4, y5, y6, y7, y8, y9, y10] ∧ Same H H') ⟨none, none, none, none, none, none, none, none, none, none, rfl, Same.refl H⟩ ?_ ?_
    · rintro i σ H1 hi ⟨y1, y2, y3, y4, y5, y6, y7, y8, y9, y10, rfl, s1⟩
      have hi3 : i < 3 := by
        refine Nat.lt_of_lt_of_le hi ?_
        split <;> (try split) <;> omega
      refine ⟨_, rfl, _, rfl, a, ns, 0 + (i : Int), rfl, s1.seq hS, hlen, by omega, by omega, fun H2 f s2 nf hf => ?_⟩
      have nf0 : H f = none := s1.free nf
      refine ⟨_, rfl, f, 6, 6, rfl, hf, by decide, by decide, by decide, by decide, fun H3 p A R ds us rs e3 np nA nR hp bk npA npR _ _ => ?_⟩
      have fA : A ≠ f := hf.ne nA
      have fR : R ≠ f := hf.ne nR
      have s3 : Same H H3 := sameX (s1.trans s2) nf0 e3
      have hf3 := e3.feed
      refine ⟨p, _, rfl, .inl (.inl hp), rfl, _, _, rfl, _, _, rfl, rfl, ?_⟩
      refine ⟨_, rfl, by decide, by decide, ?_⟩
      refine for_range (lo := 0) (n := (10 : Int).toNat) (fun j σ H' => ∃ y5 y6 y7 y8 y9 y10 : Option V, σ = [some (.ref a), some (.int (0 + (i : Int))), some (.ref f), some (.ref A), some (.ref R), y5, y6, y7, y8, y9, y10] ∧ Ext1 f H3 H') ⟨y5, y6, y7, y8, y9, y10, rfl, Ext1.refl hf3⟩ ?_ ?_
      · rintro j σ H4 hj ⟨y5, y6, y7, y8, y9, y10, rfl, e4⟩
        have bk4 : BookAt K H4 A R ds us rs := ⟨e4.1 _ _ fA bk.dem, e4.1 _ _ fR bk.rd, L2.Paired.mapP bk.rds fun _ _ z => z.ext e4 hf3, bk.n1, bk.n6, bk.d6, bk.r6, bk.ok, bk.ne⟩
        -- value
        refine ⟨_, rfl, _, rfl, _, rfl, f, A, R, ds, us, rs, rfl, e4.feed, fA, fR, bk4, fun H5 p v1 v2 e5 np hp k1 k2 => ?_⟩
        obtain ⟨d1, q1, sm1, lo1⟩ := k1
        obtain ⟨d2, q2, sm2, lo2⟩ := k2
        have smv : Sm 6 60010 (.list [d1, d2]) := (sm_list (n := 5) (b := 30000) fun z hz => by
          simp only [List.mem_cons, List.not_mem_nil, or_false] at hz
          rcases hz with rfl | rfl
          · exact sm1
          · exact sm2).mono (by decide) (by show 3 + 2 * 30002 ≤ 60010; decide)
        have dqv : ∀ Hx, Same H5 Hx → Dq K (fun _ => True) Hx (.ref p) (.list [d1, d2]) := fun Hx sx => .lst trivial (sx _ _ hp) (.cons ((q1.over (over_same sx)).imp fun _ _ _ _ => trivial) (.cons ((q2.over (over_same sx)).imp fun _ _ _ _ => trivial) .nil))
        have lsh : (PyData.shown (.list [d1, d2])).length ≤ sizeLine := Nat.le_trans smv.len (szL (by decide))
        obtain ⟨sh, hsh⟩ : ∃ sh, PyData.shown (.list [d1, d2]) = sh := ⟨_, rfl⟩
        -- shown, due
        refine ⟨_, rfl, (fun _ => True), _, .list [d1, d2], rfl, dqv H5 (Same.refl _), smv.can, Nat.le_trans smv.dep (by decide), lsh, ?_⟩
        rw [hsh]
        refine ⟨_, rfl, p, _, 0, v1, rfl, rfl, .inl (.inl hp), atI_nat (j := 0) rfl, _, rfl, p, _, 1, v2, rfl, rfl, .inl (.inl hp), atI_nat (j := 1) rfl, (fun b => H4 b = none), (fun b => H4 b = none), v1, v2, d1, d2, rfl, q1, q2, lo1, lo2, fun H6 s6 => ⟨_, _, rfl, ?_⟩⟩
        have hp6 := s6 _ _ hp
        have sz1 : sizeD d1 ≤ 1000 := by
          cases d1 with
          | list es =>
            have h0 : (decide (es.length ≤ 30) && lenOkA es) = true := lo1
            have := of_decide_eq_true (Bool.and_eq_true_iff.mp h0).1
            show es.length ≤ 1000
            omega
          | _ => exact Nat.zero_le _
        cases hdue : dueD d1 d2 with
        | some pl =>
          refine ⟨_, rfl, p, _, 0, v1, rfl, rfl, .inl (.inl hp6), atI_nat (j := 0) rfl, _, rfl, p, _, 1, v2, rfl, rfl, .inl (.inl hp6), atI_nat (j := 1) rfl, (fun b => H4 b = none), (fun b => H4 b = none), v1, v2, d1, d2, rfl, q1.over (over_same s6), q2.over (over_same s6), sz1, fun pl' hpl H7 s7 => ?_, fun h => by rw [hdue] at h; cases h⟩
          rw [hdue] at hpl
          cases hpl
          have s57 := s6.trans s7
          have smp : Sm 0 4 (plD pl) := sm_pl fun k e => due_dig (by rw [hdue, e])
          have lpl : (PyData.shown (plD pl)).length ≤ sizeLine := Nat.le_trans smp.len (by decide)
          refine ⟨_, rfl, (fun _ => True), _, .list [d1, d2], rfl, dqv H7 s57, smv.can, Nat.le_trans smv.dep (by decide), lsh, ?_⟩
          rw [hsh]
          refine ⟨_, rfl, rfl, _, rfl, ?_⟩
          show (if (!decide (V.str sh = V.str sh)) = true then _ else _)
          refine iteNS rfl ?_
          refine ⟨_, rfl, pl_scal pl, _, rfl, ?_⟩
          rw [decide_eq_false (pl_ne pl)]
          refine iteT ?_
          refine ⟨_, rfl, _, plD pl, rfl, dp_pl pl, smp.can, Nat.le_trans smp.dep (by decide), lpl, _, rfl, _, plD pl, rfl, dp_pl pl, smp.can, Nat.le_trans smp.dep (by decide), lpl, rfl, _, rfl, ?_⟩
          show (if (!decide (V.str (PyData.shown (plD pl)) = V.str (PyData.shown (plD pl)))) = true then _ else _)
          refine iteNS rfl ?_
          refine ⟨_, rfl, pl_scal pl, _, rfl, ?_⟩
          rw [decide_eq_false (pl_ne pl)]
          exact iteF ⟨_, _, _, _, _, _, rfl, e4.trans (e5.trans (Ext1.same e5.feed s57))⟩
        | none =>
          obtain ⟨es1, es2, rfl, rfl, l1, l6, ha1, l2, hfb⟩ := due_none hdue
          cases q1 with
          | @lst A0 xs _ p1 f1 g1 =>
          cases q2 with
          | @lst R0 ys _ p2 f2 g2 =>
          obtain ⟨ds', rfl, hl, hd6⟩ := dem_ints g1 ha1
          obtain ⟨rs', hP, hok, hrl⟩ := rds_of g2 (firstBad_none hfb)
          have ok' : DsOk ds' rs' := ⟨by omega, by omega, hd6, by omega, by rw [← hl]; exact hok⟩
          replace p1 : H4 A0 = none := p1
          replace p2 : H4 R0 = none := p2
          have yl : ys.length = rs'.length := Paired.len hP
          have npA : p ≠ A0 := fun e => by
            rw [e, f1] at hp
            cases ds' with
            | nil => simp at hp
            | cons z zs => simp at hp
          have nRA : R0 ≠ A0 := fun e => by
            rw [e, f1] at f2
            cases ds' with
            | nil =>
              rw [hl] at l1
              exact absurd l1 (by decide)
            | cons z zs =>
              injection f2 with f2
              injection f2 with f2
              rw [← f2] at hP
              cases hP with
              | cons r _ =>
                obtain ⟨_, _, e, _⟩ := r
                cases e
          refine ⟨_, rfl, p, _, 0, _, rfl, rfl, .inl (.inl hp6), atI_nat (j := 0) rfl, _, rfl, p, _, 1, _, rfl, rfl, .inl (.inl hp6), atI_nat (j := 1) rfl, (fun b => H4 b = none), (fun b => H4 b = none), .ref A0, .ref R0, .list es1, .list es2, rfl, .lst p1 (s6 _ _ f1) (g1.over (over_same s6)), .lst p2 (s6 _ _ f2) (g2.over (over_same s6)), sz1, (fun pl h => by rw [hdue] at h; cases h),
            fun _ A_ R_ xs_ ys_ ea_ eb_ z1 z2 z3 z4 hA hR _ _ H7 x dx A' R' s7 nx nA' nR' hx hA' hR' => ?_⟩
          cases z1
          cases z2
          cases z3
          cases z4
          rw [s6 _ _ f1] at hA
          cases hA
          rw [s6 _ _ f2] at hR
          cases hR
          have s57 := s6.trans s7
          have hA7 := s57 _ _ f1
          have hR7 := s57 _ _ f2
          have hp7 := s57 _ _ hp
          have nxA : x ≠ A0 := (ne_of_none (s6 _ _ f1) nx).symm
          have nxR : x ≠ R0 := (ne_of_none (s6 _ _ f2) nx).symm
          have nA'A : A' ≠ A0 := (ne_of_none (s6 _ _ f1) nA').symm
          have nA'R : A' ≠ R0 := (ne_of_none (s6 _ _ f2) nA').symm
          have nR'A : R' ≠ A0 := (ne_of_none (s6 _ _ f1) nR').symm
          have nR'R : R' ≠ R0 := (ne_of_none (s6 _ _ f2) nR').symm
          have hf5 := e5.feed
          have fA' : A' ≠ f := (Ext1.same hf5 s6).feed.ne nA'
          have fR' : R' ≠ f := (Ext1.same hf5 s6).feed.ne nR'
          refine ⟨_, rfl, (fun _ => True), _, .list [.list es1, .list es2], rfl, dqv H7 s57, smv.can, Nat.le_trans smv.dep (by decide), lsh, ?_⟩
          rw [hsh]
          refine ⟨_, rfl, rfl, _, rfl, ?_⟩
          show (if (!decide (V.str sh = V.str sh)) = true then _ else _)
          refine iteNS rfl ?_
          refine ⟨_, rfl, rfl, _, rfl, ?_⟩
          show (if (!decide (V.str "book" = V.str "book")) = true then _ else _)
          refine iteNS rfl (iteF ?_)
          refine ⟨_, rfl, rfl, _, rfl, ?_⟩
          show (if decide (V.str "book" = V.str "book") = true then _ else _)
          refine ite2 (fun _ => ?_) (fun c => absurd (decide_eq_true rfl) c)
          -- copies
          refine ⟨_, rfl, p, _, 0, _, rfl, rfl, .inl (.inl hp7), atI_nat (j := 0) rfl, A0, _, rfl, .inl (.inl (.inl hA7)), fun c0 n0 => ?_⟩
          have t0 := sameU (o := .lst (ds'.map V.int)) n0
          have h0 : upd H7 c0 (.lst (ds'.map V.int)) c0 = some (.lst (ds'.map V.int)) := upd_same
          have n0A : c0 ≠ A0 := (ne_of_none hA7 n0).symm
          have n0R : c0 ≠ R0 := (ne_of_none hR7 n0).symm
          generalize upd H7 c0 (.lst (ds'.map V.int)) = H8 at *
          refine ⟨_, rfl, p, _, 1, _, rfl, rfl, .inl (.inl (t0 _ _ hp7)), atI_nat (j := 1) rfl, R0, _, rfl, .inl (.inl (.inl (t0 _ _ hR7))), fun c1 n1 => ?_⟩
          have t1 := sameU (o := .lst ys) n1
          have h1 : upd H8 c1 (.lst ys) c1 = some (.lst ys) := upd_same
          have n1A : c1 ≠ A0 := (ne_of_none (t0 _ _ hA7) n1).symm
          have n1R : c1 ≠ R0 := (ne_of_none (t0 _ _ hR7) n1).symm
          have h0 := t1 _ _ h0
          have t01 := t0.trans t1
          generalize upd H8 c1 (.lst ys) = H9 at *
          refine ⟨two, fun Lc nLc => ?_⟩
          have t2 := sameU (o := .lst [.ref c0, .ref c1]) nLc
          have hLc : upd H9 Lc (.lst [.ref c0, .ref c1]) Lc = some (.lst [.ref c0, .ref c1]) := upd_same
          have nLA : Lc ≠ A0 := (ne_of_none (t01 _ _ hA7) nLc).symm
          have nLR : Lc ≠ R0 := (ne_of_none (t01 _ _ hR7) nLc).symm
          have h0 := t2 _ _ h0
          have h1 := t2 _ _ h1
          have t02 := t01.trans t2
          generalize upd H9 Lc (.lst [.ref c0, .ref c1]) = Hx at *
          have s5x := s57.trans t02
          have hpx := t02 _ _ hp7
          have hAx := t02 _ _ hA7
          have hRx := t02 _ _ hR7
          clear t0 t1 t01 t2 n0 n1 nLc
          -- value[0][0] = None, value[1].append(None)
          refine ⟨_, rfl, p, _, 0, _, rfl, rfl, .inl (.inl hpx), atI_nat (j := 0) rfl, A0, _, 0, 0, rfl, rfl, hAx, ?_, ?_⟩
          · rw [List.length_map]
            unfold ixN
            rw [if_pos (by omega), if_pos (by omega)]
            simp
          have hpy : upd Hx A0 (.lst ((ds'.map V.int).set 0 .non)) p = some (.lst [.ref A0, .ref R0]) := by rw [upd_ne npA]; exact hpx
          have hRy : upd Hx A0 (.lst ((ds'.map V.int).set 0 .non)) R0 = some (.lst ys) := by rw [upd_ne nRA]; exact hRx
          refine ⟨_, rfl, p, _, 1, _, rfl, rfl, .inl (.inl hpy), atI_nat (j := 1) rfl, .inl ⟨rfl, _, .inl (.inl hRy)⟩, R0, _, _, rfl, rfl, hRy, szL (by omega), ?_⟩
          have keep : ∀ b o, b ≠ A0 → b ≠ R0 → Hx b = some o → upd (upd Hx A0 (.lst ((ds'.map V.int).set 0 .non))) R0 (.lst (ys ++ [.non])) b = some o := fun b o na nr e => by rw [upd_ne nr, upd_ne na]; exact e
          have hPy : Paired (RdT K (upd (upd Hx A0 (.lst ((ds'.map V.int).set 0 .non))) R0 (.lst (ys ++ [.non])))) ys rs' := L2.Paired.mapP hP fun _ _ z => RdT.upd hRy (RdT.upd hAx (z.same s5x))
          have ey : Ext1 f H4 (upd (upd Hx A0 (.lst ((ds'.map V.int).set 0 .non))) R0 (.lst (ys ++ [.non]))) := ((e5.trans (Ext1.same hf5 s5x)).own p1 (e4.feed.ne p1)).own p2 (e4.feed.ne p2)
          have hxy := keep _ _ nxA nxR (t02 _ _ hx)
          have hA'y := keep _ _ nA'A nA'R (t02 _ _ hA')
          have hR'y := keep _ _ nR'A nR'R (t02 _ _ hR')
          have h0 := keep _ _ n0A n0R h0
          have h1 := keep _ _ n1A n1R h1
          have hLc := keep _ _ nLA nLR hLc
          generalize upd (upd Hx A0 (.lst ((ds'.map V.int).set 0 .non))) R0 (.lst (ys ++ [V.non])) = Hy at *
          clear keep hpy hRy hpx hAx hRx hR' hA' hx hp7 hR7 hA7 s5x t02 n0A n0R n1A n1R nLA nLR nxA nxR nA'A nA'R nR'A nR'R npA nRA hp6 hp dqv
          have bk12 : IsBook K C f Hy x ds' ys rs' := ⟨dx, A', R', hxy, hA'y, hR'y, fA', fR', hPy⟩
          have noD : (bf A' R').lookup ("demands" : Str) = none := bf_no _ _ (by decide +kernel) (by decide +kernel)
          have noR : (bf A' R').lookup ("readers" : Str) = none := bf_no _ _ (by decide +kernel) (by decide +kernel)
          refine ⟨_, rfl, _, .ref C, _, _, _, rfl, .own C, .base (.ins hxy T.ic.cl T.ic.ha T.ic.hn T.ic.htk T.ic.hm), T.ic.me, _, rfl, ?_⟩
          show (if (!true) = true then _ else _)
          refine iteF ?_
          refine ⟨_, rfl, x, dx, _, rfl, hxy, noD, f, x, ds', ys, rs', rfl, bk12, fun H13 p13 s13 n13 h13 => ?_⟩
          refine ⟨_, rfl, x, dx, _, rfl, s13 _ _ hxy, noR, f, x, ds', ys, rs', rfl, bk12.same s13, fun H14 p14 s14 n14 h14 => ⟨two, fun l15 n15 => ?_⟩⟩
          have t15 := sameU (o := .lst [.ref p13, .ref p14]) n15
          have s15 := s13.trans (s14.trans t15)
          have hP15 := L2.Paired.mapP hPy fun _ _ z => z.same s15
          refine ⟨_, rfl, dB2 ds' rs', dB2 ds' rs', .lst (.inl (.inl upd_same)) (.cons (dp_dI (.inl (.inl (t15 _ _ (s14 _ _ h13))))) (.cons (dp_dRs (.inl (.inl (t15 _ _ h14))) hP15) .nil)),
            .lst (.inl (.inl (s15 _ _ hLc))) (.cons (dp_dI (.inl (.inl (s15 _ _ h0)))) (.cons (dp_dRs (.inl (.inl (s15 _ _ h1))) hP15) .nil)), shp_dB2 _ _, shp_dB2 _ _, _, rfl, ?_⟩
          rw [SeqAt.eqv_refl _ (lay_dB2 _ _)]
          refine iteF ?_
          have hLc := s15 _ _ hLc
          have h0 := s15 _ _ h0
          have h1 := s15 _ _ h1
          have hx15 := s15 _ _ hxy
          have bk15 := bk12.same s15
          have e15 := ey.trans (Ext1.same ey.feed s15)
          generalize upd H14 l15 (.lst [.ref p13, .ref p14]) = H15 at *
          refine ⟨_, rfl, x, dx, _, rfl, hx15, f, x, ds', ys, rs', rfl, bk15, _, rfl, ⟨by omega, by omega⟩, _, rfl, Lc, _, 0, _, rfl, rfl, .inl (.inl hLc), atI_nat (j := 0) rfl, c0, _, rfl, .inl (.inl (.inl h0)), rfl, _, rfl, ?_⟩
          rw [List.length_map]
          show (if (!decide (V.int (ds'.length : Int) = V.int (ds'.length : Int))) = true then _ else _)
          refine iteNS rfl ?_
          refine ⟨_, rfl, _, rfl, Lc, _, 0, _, rfl, rfl, .inl (.inl hLc), atI_nat (j := 0) rfl, _, rfl, Lc, _, 1, _, rfl, rfl, .inl (.inl hLc), atI_nat (j := 1) rfl, fun x' dx' nx' ndx' nex' => init_of (K := K) (rs := rs') (f := f) e15.feed nx' ndx' nex' (.inl (.inl h0)) (.inl (.inl h1)) hP15 ok' fun Hd sd bd => ⟨rfl, ?_⟩⟩
          obtain ⟨dx2, A2, R2, hx2, _⟩ := id bd
          refine ⟨x, dx, _, .ref C, rfl, sd _ _ hx15, .base (.ins hx2 T.ic.cl T.ic.ha T.ic.hn T.ic.htk T.ic.hm), T.sub, f, x, .ref x', ds', ys, rs', rfl, bk15.same sd, .inl ⟨f, x', ds', ys, rs', rfl, bd, _, rfl, ?_⟩⟩
          rw [decide_eq_true rfl, decide_eq_true rfl]
          refine ⟨_, rfl, ?_⟩
          show (if (!true) = true then _ else _)
          exact iteF ⟨_, _, _, _, _, _, rfl, e4.trans (e15.trans (Ext1.same e15.feed sd))⟩
      · rintro σ H4 ⟨y5, y6, y7, y8, y9, y10, rfl, e4⟩
        exact ⟨_, _, _, _, _, _, _, _, _, _, rfl, sameX s3 nf0 e4⟩
    · rintro σ H1 ⟨y1, y2, y3, y4, y5, y6, y7, y8, y9, y10, rfl, s1⟩
      exact q _
end
end Ew
namespace Ew
open PySem PySem.Spec PyProof.Rows L2
section
variable {P : Program} {w : World} {K : PySem.W.Frag} {mg mb : Str → Option Value} {k : Nat} {fa a : Addr} {fd : FuncData} {x : Str} {sp : Sp} {s₁ : Shared} {vs : List Value} {ns : List Int}
/-- the law's call from an abstract heap that tracks at most the script -/
theorem call_from2 {H : Hp} (KX : K.In s₁.heap) (hns : s₁.heap.Ns mainGlobals mg) (hb : s₁.heap.Ns builtinsNs mb) (hbb : ∀ x : Str, x ≠ "__name__" → mb x = bootBuiltins x) (hlim : s₁.heap.NoLimit) (hg : s₁.gens = #[])
    (hr : Room k callerA) (hmods : ∃ o es ep, s₁.heap.get? sysModules = some o ∧ o.data = .dict es ep) (F : ∀ base : Heap, K.In base → base.Ns mainGlobals mg → (∃ o, base.get? sysModules = some o) → FnOkG P w K mg base k fa fd [x] sp) (hbind : ∀ (s : Shared) (u : Value), BindsTo s fd ⟨[u], []⟩ [(x, u)])
    (hsp : sp [.ref a] H (fun v _ => v = .bl true) fun _ _ _ => False) (hok : HOk P w H s₁.heap) (dicts : ∀ b o es ep, s₁.heap.get? b = some o → o.data = .dict es ep → H b = none) (kept : ∀ b o, K.lookup b = some o → H b = none)
    (frz : ∀ b u, H b = some u → ∃ o xs, u = .frz o (.lst xs)) :
    codeAny (model P w) callerA (.call (.ref fa) ⟨[.ref a], []⟩) (fun r s' => r = .ok (.ret (.bool true)) ∧ OldK s₁.heap s'.heap ∧ s'.os = s₁.os ∧ AllBare s'.gens) s₁ := by
  have nsB : ∀ {b : Addr} {m : Str → Option Value}, s₁.heap.Ns b m → (hidT s₁.heap H).Ns b m := by
    rintro b m ⟨o, es, ep, e, d, r⟩
    exact ⟨o, es, ep, hidT_get e (dicts _ _ _ _ e d), d, r⟩
  have inB : K.In (hidT s₁.heap H) := fun b o e => hidT_get (KX b o e) (kept b o e)
  have hM : Mod K mg (hidT s₁.heap H) := ⟨inB, nsB hns, ⟨mb, nsB hb, hbb⟩, let ⟨mc, h1, h2⟩ := hlim; ⟨mc, nsB h1, h2⟩⟩
  have noFr : ∀ b ∈ frs ([] : List Env), H b = none := fun b z => absurd (show b ∈ ([] : List Addr) from z) (by simp)
  have e0 : Env0 P w K mg (hidT s₁.heap H) callerA [] s₁ H := ⟨rfl, hM, fun b o e => of_hidT e, Nat.le_of_eq (hidT_size _ _), trivial, noFr, hok, .of_eq hg⟩
  refine codeAny_mono ((F _ inB (nsB hns) (let ⟨o, es, ep, e, d⟩ := hmods; ⟨o, hidT_get e (dicts _ _ _ _ e d)⟩)).run callerA [] s₁ H ⟨[.ref a], []⟩ [.ref a] [.ref a] _ _ rfl hr e0 (hbind s₁ (.ref a)) (.cons rfl .nil) hsp) fun r s' h => ?_
  cases r with
  | error e => exact False.elim h
  | ok fl =>
    cases fl with
    | next => exact False.elim h
    | brk => exact False.elim h
    | cont => exact False.elim h
    | ret u =>
      obtain ⟨v, H', os, bare, un, hok', r', q⟩ := h
      obtain rfl : v = .bl true := q
      obtain rfl : u = Value.bool true := r'
      refine ⟨rfl, OldK.of_keep fun b o e => ?_, os, bare⟩
      cases hb2 : H b with
      | none => exact un.keep b o e hb2 (fun z => absurd (show b ∈ ([] : List Addr) from z) (by simp)) (by simp)
      | some u =>
        obtain ⟨ob, xs, rfl⟩ := frz b u hb2
        obtain ⟨e1, _⟩ := hok b _ hb2
        obtain ⟨e2, _⟩ := hok' b _ (un.frzs b ob _ hb2)
        exact e2.trans (e1.symm.trans e)
end
/-- the end of a law whose def asks that no repr is under way -/
theorem walk_ofG2 {l : PySem.W.OpenLaw} {n k : Nat} {q : Program} {loose : List Str} {XP : (Str → Option Value) → Heap → Prop} {YP : World → Heap → Prop} {d : DefRec} {K : Params → PySem.W.Frag} {sp : World → Sp} {x : Str}
    (hn : l.most = some n) (hn2 : n ≤ sizeLine) (hdf : d.params.defaults = []) (hr : Room k callerA) (hq : importsNone q = true)
    (hY : ∀ (w : World) (h : Heap), YP w h → (K w.params).In h)
    (F : ∀ (w : World) (mg : Str → Option Value) (fa : Addr) (h : Heap), (K w.params).In h → h.Ns mainGlobals mg → mg d.name = some (.ref fa) →
      ∃ fd : FuncData, (∀ (s : Shared) (u : Value), BindsTo s fd ⟨[u], []⟩ [(x, u)]) ∧
        ∀ base : Heap, (K w.params).In base → base.Ns mainGlobals mg → (∃ o, base.get? sysModules = some o) → FnOkG l.prog w (K w.params) mg base k fa fd [x] (sp w))
    (hsp : ∀ (w : World) (H : Hp) (a : Addr) (ns : List Int), ns.length ≤ n → SqL (K w.params) H a (ns.map V.int) → sp w [.ref a] H (fun v _ => v = .bl true) fun _ _ _ => False) :
    PySem.W.WalkO q loose XP YP l.row.toRowW d [] (fun f vs => PySem.call f vs) := by
  refine Att.attach_call hn hdf fun w s₀ s₁ mg mb fa o pm cd doc a vs ns G Y ho hd hcd hmg hobj hints hlen hg => ?_
  have KX := hY w _ Y
  have hmods : ∃ o es ep, s₁.heap.get? sysModules = some o ∧ o.data = .dict es ep := by
    obtain ⟨mm, ⟨o, es, ep, e, dd, _⟩, _⟩ := (G.T.seer hq).mods
    exact ⟨o, es, ep, e, dd⟩
  obtain ⟨fd, hb, hF⟩ := F w mg fa _ KX G.T.g hmg
  have rv := vals_ints hints
  have ls : (ns.map V.int).length ≤ sizeLine := by rw [List.length_map]; exact Nat.le_trans hlen hn2
  cases hk : (K w.params).lookup a with
  | some o =>
    -- the script is one of the module's own objects
    have e := KX a o hk
    rw [hobj] at e
    cases e
    have none_ : ∀ b, (fun _ => none : Hp) b = none := fun _ => rfl
    refine call_from2 (H := fun _ => none) KX G.T.g G.T.b G.T.builtins G.T.nolimit hg hr hmods hF hb (hsp w _ a ns hlen (.inr ⟨_, vs.toArray, _, hk, rfl, rfl, rfl, ?_, by simpa using rv⟩)) (fun b u z => by cases z) (fun _ _ _ _ _ _ => rfl) (fun _ _ _ => rfl) (fun b u z => by cases z)
    rw [List.size_toArray, ← rv.length]
    exact ls
  | none =>
    refine call_from2 (H := only a { cls := .type "list", data := .seq vs.toArray } (ns.map V.int)) KX G.T.g G.T.b G.T.builtins G.T.nolimit hg hr hmods hF hb (hsp w _ a ns hlen (.inl (.inr ⟨_, only_at⟩))) (fun b u z => ?_) (fun b ob es ep e d => ?_) (fun b ob e => ?_) (fun b u z => ⟨_, _, (only_is z).2⟩)
    · obtain ⟨rfl, rfl⟩ := only_is z
      exact ⟨hobj, ls, vs, _, rv, hobj⟩
    · refine only_ne fun z => ?_
      rw [z, hobj] at e
      cases e
      cases (show Data.seq vs.toArray _ = Data.dict es ep from d)
    · refine only_ne fun z => ?_
      rw [z, hk] at e
      cases e
end Ew
namespace Ew
open PySem PySem.Spec PyProof.Rows L2
theorem notF {K : PySem.W.Frag} {C : Addr} {t : Value} (h : PySem.W.subIn K t (.ref C) = some false) : PySem.W.notFirst K C t = true := by
  unfold PySem.W.notFirst
  rw [h]
  simp
theorem exm_self {K : PySem.W.Frag} {S : Addr} (h1 : PySem.W.subIn K (.ref S) (.type "BaseException") = some true) (h2 : PySem.W.isClsIn K S = true) (h3 : PySem.W.typeIn K (.ref S) = some (.type "type")) (h4 : PySem.W.subIn K (.ref S) (.ref S) = some true) : PySem.W.exmOne K (.ref S) (.ref S) = some true := by
  have e1 : (PySem.W.subIn K (.ref S) (.type "BaseException") == some true) = true := by rw [h1] <;> rfl
  have e2 : ((PySem.W.clsIn K S).isSome && PySem.W.typeIn K (.ref S) == some (.type "type")) = true := by
    have h2' : (PySem.W.clsIn K S).isSome = true := h2
    rw [h2', h3] <;> rfl
  show (if (PySem.W.subIn K (.ref S) (.type "BaseException") == some true) = true then (if ((PySem.W.clsIn K S).isSome && PySem.W.typeIn K (.ref S) == some (.type "type")) = true then PySem.W.subIn K (.ref S) (.ref S) else none) else none) = some true
  rw [if_pos e1, if_pos e2]
  exact h4
set_option maxHeartbeats 0 in
theorem all_mk {l : PySem.W.OpenLaw} {w : World} {K : PySem.W.Frag} {h : Heap} {mg : Str → Option Value} {fa : Addr} (X : K.In h) (G : h.Ns mainGlobals mg) (hfa : mg "law" = some (.ref fa))
    {f1 : Addr} {od1 an1 : Option Addr} {sl1 : Array (Option Value)} {oc1 kV1 dc1 pm1 cd1 ct1 : Value}
    {f2 : Addr} {od2 an2 : Option Addr} {sl2 : Array (Option Value)} {oc2 kV2 dc2 pm2 cd2 ct2 : Value}
    {f3 : Addr} {od3 an3 : Option Addr} {sl3 : Array (Option Value)} {oc3 kV3 dc3 pm3 cd3 ct3 : Value}
    {f4 : Addr} {od4 an4 : Option Addr} {sl4 : Array (Option Value)} {oc4 kV4 dc4 pm4 cd4 ct4 : Value}
    {f5 : Addr} {od5 an5 : Option Addr} {sl5 : Array (Option Value)} {oc5 kV5 dc5 pm5 cd5 ct5 : Value}
    {f6 : Addr} {od6 an6 : Option Addr} {sl6 : Array (Option Value)} {oc6 kV6 dc6 pm6 cd6 ct6 : Value}
    {f7 : Addr} {od7 an7 : Option Addr} {sl7 : Array (Option Value)} {oc7 kV7 dc7 pm7 cd7 ct7 : Value}
    {f8 : Addr} {od8 an8 : Option Addr} {sl8 : Array (Option Value)} {oc8 kV8 dc8 pm8 cd8 ct8 : Value}
    {f9 : Addr} {od9 an9 : Option Addr} {sl9 : Array (Option Value)} {oc9 kV9 dc9 pm9 cd9 ct9 : Value}
    {f10 : Addr} {od10 an10 : Option Addr} {sl10 : Array (Option Value)} {oc10 kV10 dc10 pm10 cd10 ct10 : Value}
    {f11 : Addr} {od11 an11 : Option Addr} {sl11 : Array (Option Value)} {oc11 kV11 dc11 pm11 cd11 ct11 : Value}
    {f12 : Addr} {od12 an12 : Option Addr} {sl12 : Array (Option Value)} {oc12 kV12 dc12 pm12 cd12 ct12 : Value}
    {f13 : Addr} {od13 an13 : Option Addr} {sl13 : Array (Option Value)} {oc13 kV13 dc13 pm13 cd13 ct13 : Value}
    {f14 : Addr} {od14 an14 : Option Addr} {sl14 : Array (Option Value)} {oc14 kV14 dc14 pm14 cd14 ct14 : Value}
    {f15 : Addr} {od15 an15 : Option Addr} {sl15 : Array (Option Value)} {oc15 kV15 dc15 pm15 cd15 ct15 : Value}
    {f16 : Addr} {od16 an16 : Option Addr} {sl16 : Array (Option Value)} {oc16 kV16 dc16 pm16 cd16 ct16 : Value}
    {f17 : Addr} {od17 an17 : Option Addr} {sl17 : Array (Option Value)} {oc17 kV17 dc17 pm17 cd17 ct17 : Value}
    {f18 : Addr} {od18 an18 : Option Addr} {sl18 : Array (Option Value)} {oc18 kV18 dc18 pm18 cd18 ct18 : Value}
    {f19 : Addr} {od19 an19 : Option Addr} {sl19 : Array (Option Value)} {oc19 kV19 dc19 pm19 cd19 ct19 : Value}
    {C : Addr}
    {fm1 : Addr} {odm1 anm1 : Option Addr} {slm1 : Array (Option Value)} {ocm1 kVm1 dcm1 pmm1 cdm1 ctm1 : Value}
    {fm2 : Addr} {odm2 anm2 : Option Addr} {slm2 : Array (Option Value)} {ocm2 kVm2 dcm2 pmm2 cdm2 ctm2 : Value}
    {fm3 : Addr} {odm3 anm3 : Option Addr} {slm3 : Array (Option Value)} {ocm3 kVm3 dcm3 pmm3 cdm3 ctm3 : Value}
    {fm4 : Addr} {odm4 anm4 : Option Addr} {slm4 : Array (Option Value)} {ocm4 kVm4 dcm4 pmm4 cdm4 ctm4 : Value}
    {fm5 : Addr} {odm5 anm5 : Option Addr} {slm5 : Array (Option Value)} {ocm5 kVm5 dcm5 pmm5 cdm5 ctm5 : Value}
    {BB RE : Addr} {enm eq : Str} {eN : Addr} {ebs esub : List Value} {esn : List Str} {eab : Bool} {ecol : Option Bool} {edd : Option Addr} {em0 em1 em2 em3 em5 : Option Value}
    {fe1 : Addr} {ode1 ane1 : Option Addr} {sle1 : Array (Option Value)} {oce1 kVe1 dce1 pme1 cde1 cte1 : Value}
    {g0 g1 g2 : Tok}
    (a1 : PySem.W.nsIn K mainGlobals "is_integer" = some (some (.ref f1)))
    (l1 : K.lookup f1 = some ⟨oc1, od1, .func (PySem.W.fnOf "is_integer" "is_integer" (defArgs sIsInt) (defBody sIsInt) (defScope sIsInt) .none kV1 dc1 pm1 an1 cd1 ct1), sl1⟩)
    (c1 : PySem.W.codeIn K cd1 "is_integer" = true)
    (k1 : PySem.W.keepIn K (.ref f1) = true)
    (a2 : PySem.W.nsIn K mainGlobals "is_amount" = some (some (.ref f2)))
    (l2 : K.lookup f2 = some ⟨oc2, od2, .func (PySem.W.fnOf "is_amount" "is_amount" (defArgs sIsAmt) (defBody sIsAmt) (defScope sIsAmt) .none kV2 dc2 pm2 an2 cd2 ct2), sl2⟩)
    (c2 : PySem.W.codeIn K cd2 "is_amount" = true)
    (k2 : PySem.W.keepIn K (.ref f2) = true)
    (a3 : PySem.W.nsIn K mainGlobals "is_ascending" = some (some (.ref f3)))
    (l3 : K.lookup f3 = some ⟨oc3, od3, .func (PySem.W.fnOf "is_ascending" "is_ascending" (defArgs sIsAsc) (defBody sIsAsc) (defScope sIsAsc) .none kV3 dc3 pm3 an3 cd3 ct3), sl3⟩)
    (c3 : PySem.W.codeIn K cd3 "is_ascending" = true)
    (k3 : PySem.W.keepIn K (.ref f3) = true)
    (a4 : PySem.W.nsIn K mainGlobals "are_demands" = some (some (.ref f4)))
    (l4 : K.lookup f4 = some ⟨oc4, od4, .func (PySem.W.fnOf "are_demands" "are_demands" (defArgs sAreDem) (defBody sAreDem) (defScope sAreDem) .none kV4 dc4 pm4 an4 cd4 ct4), sl4⟩)
    (c4 : PySem.W.codeIn K cd4 "are_demands" = true)
    (k4 : PySem.W.keepIn K (.ref f4) = true)
    (a5 : PySem.W.nsIn K mainGlobals "is_reader" = some (some (.ref f5)))
    (l5 : K.lookup f5 = some ⟨oc5, od5, .func (PySem.W.fnOf "is_reader" "is_reader" (defArgs sIsRd) (defBody sIsRd) (defScope sIsRd) .none kV5 dc5 pm5 an5 cd5 ct5), sl5⟩)
    (c5 : PySem.W.codeIn K cd5 "is_reader" = true)
    (k5 : PySem.W.keepIn K (.ref f5) = true)
    (a6 : PySem.W.nsIn K mainGlobals "_law_feed" = some (some (.ref f6)))
    (l6 : K.lookup f6 = some ⟨oc6, od6, .func (PySem.W.fnOf "_law_feed" "_law_feed" (defArgs sFeed) (defBody sFeed) (defScope sFeed) .none kV6 dc6 pm6 an6 cd6 ct6), sl6⟩)
    (c6 : PySem.W.codeIn K cd6 "_law_feed" = true)
    (k6 : PySem.W.keepIn K (.ref f6) = true)
    (a7 : PySem.W.nsIn K mainGlobals "_law_take" = some (some (.ref f7)))
    (l7 : K.lookup f7 = some ⟨oc7, od7, .func (PySem.W.fnOf "_law_take" "_law_take" (defArgs sTake) (defBody sTake) (defScope sTake) .none kV7 dc7 pm7 an7 cd7 ct7), sl7⟩)
    (c7 : PySem.W.codeIn K cd7 "_law_take" = true)
    (k7 : PySem.W.keepIn K (.ref f7) = true)
    (a8 : PySem.W.nsIn K mainGlobals "_law_pick" = some (some (.ref f8)))
    (l8 : K.lookup f8 = some ⟨oc8, od8, .func (PySem.W.fnOf "_law_pick" "_law_pick" (defArgs sPick) (defBody sPick) (defScope sPick) .none kV8 dc8 pm8 an8 cd8 ct8), sl8⟩)
    (c8 : PySem.W.codeIn K cd8 "_law_pick" = true)
    (k8 : PySem.W.keepIn K (.ref f8) = true)
    (a9 : PySem.W.nsIn K mainGlobals "_law_row" = some (some (.ref f9)))
    (l9 : K.lookup f9 = some ⟨oc9, od9, .func (PySem.W.fnOf "_law_row" "_law_row" (defArgs sRow) (defBody sRow) (defScope sRow) .none kV9 dc9 pm9 an9 cd9 ct9), sl9⟩)
    (c9 : PySem.W.codeIn K cd9 "_law_row" = true)
    (k9 : PySem.W.keepIn K (.ref f9) = true)
    (a10 : PySem.W.nsIn K mainGlobals "_law_rows" = some (some (.ref f10)))
    (l10 : K.lookup f10 = some ⟨oc10, od10, .func (PySem.W.fnOf "_law_rows" "_law_rows" (defArgs sRows) (defBody sRows) (defScope sRows) .none kV10 dc10 pm10 an10 cd10 ct10), sl10⟩)
    (c10 : PySem.W.codeIn K cd10 "_law_rows" = true)
    (k10 : PySem.W.keepIn K (.ref f10) = true)
    (a11 : PySem.W.nsIn K mainGlobals "_law_times" = some (some (.ref f11)))
    (l11 : K.lookup f11 = some ⟨oc11, od11, .func (PySem.W.fnOf "_law_times" "_law_times" (defArgs sTimes) (defBody sTimes) (defScope sTimes) .none kV11 dc11 pm11 an11 cd11 ct11), sl11⟩)
    (c11 : PySem.W.codeIn K cd11 "_law_times" = true)
    (k11 : PySem.W.keepIn K (.ref f11) = true)
    (a12 : PySem.W.nsIn K mainGlobals "_law_book" = some (some (.ref f12)))
    (l12 : K.lookup f12 = some ⟨oc12, od12, .func (PySem.W.fnOf "_law_book" "_law_book" (defArgs sBook) (defBody sBook) (defScope sBook) .none kV12 dc12 pm12 an12 cd12 ct12), sl12⟩)
    (c12 : PySem.W.codeIn K cd12 "_law_book" = true)
    (k12 : PySem.W.keepIn K (.ref f12) = true)
    (a13 : PySem.W.nsIn K mainGlobals "_law_is_number" = some (some (.ref f13)))
    (l13 : K.lookup f13 = some ⟨oc13, od13, .func (PySem.W.fnOf "_law_is_number" "_law_is_number" (defArgs sNum) (defBody sNum) (defScope sNum) .none kV13 dc13 pm13 an13 cd13 ct13), sl13⟩)
    (c13 : PySem.W.codeIn K cd13 "_law_is_number" = true)
    (k13 : PySem.W.keepIn K (.ref f13) = true)
    (a14 : PySem.W.nsIn K mainGlobals "_law_is_reader" = some (some (.ref f14)))
    (l14 : K.lookup f14 = some ⟨oc14, od14, .func (PySem.W.fnOf "_law_is_reader" "_law_is_reader" (defArgs sLRd) (defBody sLRd) (defScope sLRd) .none kV14 dc14 pm14 an14 cd14 ct14), sl14⟩)
    (c14 : PySem.W.codeIn K cd14 "_law_is_reader" = true)
    (k14 : PySem.W.keepIn K (.ref f14) = true)
    (a15 : PySem.W.nsIn K mainGlobals "_law_due" = some (some (.ref f15)))
    (l15 : K.lookup f15 = some ⟨oc15, od15, .func (PySem.W.fnOf "_law_due" "_law_due" (defArgs sDue) (defBody sDue) (defScope sDue) .none kV15 dc15 pm15 an15 cd15 ct15), sl15⟩)
    (c15 : PySem.W.codeIn K cd15 "_law_due" = true)
    (k15 : PySem.W.keepIn K (.ref f15) = true)
    (a16 : PySem.W.nsIn K mainGlobals "_law_odd" = some (some (.ref f16)))
    (l16 : K.lookup f16 = some ⟨oc16, od16, .func (PySem.W.fnOf "_law_odd" "_law_odd" (defArgs sOdd) (defBody sOdd) (defScope sOdd) .none kV16 dc16 pm16 an16 cd16 ct16), sl16⟩)
    (c16 : PySem.W.codeIn K cd16 "_law_odd" = true)
    (k16 : PySem.W.keepIn K (.ref f16) = true)
    (a17 : PySem.W.nsIn K mainGlobals "_law_near" = some (some (.ref f17)))
    (l17 : K.lookup f17 = some ⟨oc17, od17, .func (PySem.W.fnOf "_law_near" "_law_near" (defArgs sNear1) (defBody sNear1) (defScope sNear1) .none kV17 dc17 pm17 an17 cd17 ct17), sl17⟩)
    (c17 : PySem.W.codeIn K cd17 "_law_near" = true)
    (k17 : PySem.W.keepIn K (.ref f17) = true)
    (a18 : PySem.W.nsIn K mainGlobals "_law_told_so" = some (some (.ref f18)))
    (l18 : K.lookup f18 = some ⟨oc18, od18, .func (PySem.W.fnOf "_law_told_so" "_law_told_so" (defArgs sTold) (defBody sTold) (defScope sTold) .none kV18 dc18 pm18 an18 cd18 ct18), sl18⟩)
    (c18 : PySem.W.codeIn K cd18 "_law_told_so" = true)
    (k18 : PySem.W.keepIn K (.ref f18) = true)
    (a19 : PySem.W.nsIn K mainGlobals "law" = some (some (.ref f19)))
    (l19 : K.lookup f19 = some ⟨oc19, od19, .func (PySem.W.fnOf "law" "law" (defArgs sLaw) (defBody sLaw) (defScope sLaw) .none kV19 dc19 pm19 an19 cd19 ct19), sl19⟩)
    (c19 : PySem.W.codeIn K cd19 "law" = true)
    (k19 : PySem.W.keepIn K (.ref f19) = true)
    (aC : PySem.W.nsIn K mainGlobals "Book" = some (some (.ref C)))
    (am1 : PySem.W.findIn K (.ref C) "__init__" = some (some (.ref fm1)))
    (im1 : PySem.W.isFn K (.ref fm1) = true)
    (lm1 : K.lookup fm1 = some ⟨ocm1, odm1, .func (PySem.W.fnOf "__init__" "Book.__init__" (defArgs sBkInit) (defBody sBkInit) (defScope sBkInit) .none kVm1 dcm1 pmm1 anm1 cdm1 ctm1), slm1⟩)
    (cm1 : PySem.W.codeIn K cdm1 "Book.__init__" = true)
    (km1 : PySem.W.keepIn K (.ref fm1) = true)
    (am2 : PySem.W.findIn K (.ref C) "demands" = some (some (.ref fm2)))
    (im2 : PySem.W.isFn K (.ref fm2) = true)
    (lm2 : K.lookup fm2 = some ⟨ocm2, odm2, .func (PySem.W.fnOf "demands" "Book.demands" (defArgs sBkDem) (defBody sBkDem) (defScope sBkDem) .none kVm2 dcm2 pmm2 anm2 cdm2 ctm2), slm2⟩)
    (cm2 : PySem.W.codeIn K cdm2 "Book.demands" = true)
    (km2 : PySem.W.keepIn K (.ref fm2) = true)
    (am3 : PySem.W.findIn K (.ref C) "readers" = some (some (.ref fm3)))
    (im3 : PySem.W.isFn K (.ref fm3) = true)
    (lm3 : K.lookup fm3 = some ⟨ocm3, odm3, .func (PySem.W.fnOf "readers" "Book.readers" (defArgs sBkRd) (defBody sBkRd) (defScope sBkRd) .none kVm3 dcm3 pmm3 anm3 cdm3 ctm3), slm3⟩)
    (cm3 : PySem.W.codeIn K cdm3 "Book.readers" = true)
    (km3 : PySem.W.keepIn K (.ref fm3) = true)
    (am4 : PySem.W.findIn K (.ref C) "__eq__" = some (some (.ref fm4)))
    (im4 : PySem.W.isFn K (.ref fm4) = true)
    (lm4 : K.lookup fm4 = some ⟨ocm4, odm4, .func (PySem.W.fnOf "__eq__" "Book.__eq__" (defArgs sBkEq) (defBody sBkEq) (defScope sBkEq) .none kVm4 dcm4 pmm4 anm4 cdm4 ctm4), slm4⟩)
    (cm4 : PySem.W.codeIn K cdm4 "Book.__eq__" = true)
    (km4 : PySem.W.keepIn K (.ref fm4) = true)
    (am5 : PySem.W.findIn K (.ref C) "__len__" = some (some (.ref fm5)))
    (im5 : PySem.W.isFn K (.ref fm5) = true)
    (lm5 : K.lookup fm5 = some ⟨ocm5, odm5, .func (PySem.W.fnOf "__len__" "Book.__len__" (defArgs sBkLen) (defBody sBkLen) (defScope sBkLen) .none kVm5 dcm5 pmm5 anm5 cdm5 ctm5), slm5⟩)
    (cm5 : PySem.W.codeIn K cdm5 "Book.__len__" = true)
    (km5 : PySem.W.keepIn K (.ref fm5) = true)
    (pg : PySem.W.plainGet K C Str.empty = true)
    (hd : PySem.W.hasDictIn K C = true)
    (po : PySem.W.plainOver K C = true)
    (sa : PySem.W.findIn K (.ref C) "__setattr__" = some (some (.builtin "object.__setattr__")))
    (mk : PySem.W.makesIn K C = true)
    (kc : PySem.W.keepIn K (.ref C) = true)
    (nD : PySem.W.findIn K (.ref C) "_demands" = some none)
    (nR : PySem.W.findIn K (.ref C) "_readers" = some none)
    (ha : PySem.W.findIn K (.ref C) "__class__" = some (some (.builtin "object.__class__")))
    (hn : PySem.W.specialIn K (.builtin "object.__class__") "__get__" = some (some (.builtin "getset_descriptor.__get__")))
    (htk : PySem.W.takesIn K (.builtin "object.__class__") = some true)
    (hm : PySem.W.mroIn K C (.type "object") = some true)
    (me : PySem.W.kitOne K (.ref C) (.ref C) = some true)
    (t0 : PySem.W.kitOne K (.type "NoneType") (.ref C) = some false)
    (u0 : PySem.W.subIn K (.type "NoneType") (.ref C) = some false)
    (t1 : PySem.W.kitOne K (.type "bool") (.ref C) = some false)
    (u1 : PySem.W.subIn K (.type "bool") (.ref C) = some false)
    (t2 : PySem.W.kitOne K (.type "int") (.ref C) = some false)
    (u2 : PySem.W.subIn K (.type "int") (.ref C) = some false)
    (t3 : PySem.W.kitOne K (.type "str") (.ref C) = some false)
    (u3 : PySem.W.subIn K (.type "str") (.ref C) = some false)
    (t4 : PySem.W.kitOne K (.type "list") (.ref C) = some false)
    (u4 : PySem.W.subIn K (.type "list") (.ref C) = some false)
    (t5 : PySem.W.kitOne K (.type "tuple") (.ref C) = some false)
    (u5 : PySem.W.subIn K (.type "tuple") (.ref C) = some false)
    (t6 : PySem.W.kitOne K (.type "dict") (.ref C) = some false)
    (u6 : PySem.W.subIn K (.type "dict") (.ref C) = some false)
    (xset : PySem.W.nsIn K mainGlobals "set" = some none)
    (z0 : PySem.W.nsIn K mainGlobals "len" = some none)
    (z1 : PySem.W.nsIn K mainGlobals "range" = some none)
    (z2 : PySem.W.nsIn K mainGlobals "list" = some none)
    (z3 : PySem.W.nsIn K mainGlobals "tuple" = some none)
    (z4 : PySem.W.nsIn K mainGlobals "int" = some none)
    (z5 : PySem.W.nsIn K mainGlobals "bool" = some none)
    (z6 : PySem.W.nsIn K mainGlobals "abs" = some none)
    (z7 : PySem.W.nsIn K mainGlobals "max" = some none)
    (z8 : PySem.W.nsIn K mainGlobals "min" = some none)
    (z9 : PySem.W.nsIn K mainGlobals "sorted" = some none)
    (z10 : PySem.W.nsIn K mainGlobals "enumerate" = some none)
    (z11 : PySem.W.nsIn K mainGlobals "isinstance" = some none)
    (z12 : PySem.W.nsIn K mainGlobals "all" = some none)
    (z13 : PySem.W.nsIn K mainGlobals "sum" = some none)
    (z14 : PySem.W.nsIn K mainGlobals "zip" = some none)
    (z15 : PySem.W.nsIn K mainGlobals "repr" = some none)
    (eA : PySem.W.nsIn K mainGlobals "BadBook" = some (some (.ref BB)))
    (eR : PySem.W.nsIn K mainGlobals "ReadError" = some (some (.ref RE)))
    (eL : K.lookup BB = some (excClassObj enm eq BB eN ebs [.ref RE, .type "ValueError", .type "Exception", .type "BaseException", .type "object"] true esn esub eab ecol edd em0 em1 em2 em3 em5 "ValueError.__new__"))
    (eS : PySem.W.findIn K (.ref BB) "__setattr__" = some (some (.builtin "object.__setattr__")))
    (eX : PySem.W.subIn K (.ref BB) (.type "BaseException") = some true)
    (eT : PySem.W.typeIn K (.ref BB) = some (.type "type"))
    (eK : PySem.W.keepIn K (.ref BB) = true)
    (eI : PySem.W.findIn K (.ref BB) "__init__" = some (some (.ref fe1)))
    (eF : PySem.W.typeIn K (.ref fe1) = some (.type "function"))
    (le1 : K.lookup fe1 = some ⟨oce1, ode1, .func (PySem.W.fnOf "__init__" "BadBook.__init__" (defArgs sBB) (defBody sBB) (defScope sBB) .none kVe1 dce1 pme1 ane1 cde1 cte1), sle1⟩)
    (ce1 : PySem.W.codeIn K cde1 "BadBook.__init__" = true)
    (ke1 : PySem.W.keepIn K (.ref fe1) = true)
    (eg : PySem.W.specialIn K (.ref RE) "__getattribute__" = some (some (.builtin "type.__getattribute__")))
    (er : PySem.W.readsIn K RE (.type "type") = true)
    (ef : PySem.W.findCls K (.ref RE) (.type "type") "__init__" = some (.val (.builtin "ValueError.__init__")))
    (eP : PySem.W.findIn K (.ref BB) "place" = some none)
    (eG : PySem.W.findIn K (.ref BB) "__getattribute__" = some (some (.builtin "BaseException.__getattribute__")))
    (eg2 : PySem.W.findIn K (.ref BB) "__getattr__" = some none)
    (eH : PySem.W.hasDictIn K BB = true)
    (eC : PySem.W.isClsIn K BB = true)
    (eZ : PySem.W.subIn K (.ref BB) (.ref BB) = some true)
    (g0x : PySem.W.nsIn K mainGlobals "GREATEST_AMOUNT" = some (some (.int 6 g0)))
    (g1x : PySem.W.nsIn K mainGlobals "MOST_WORKS" = some (some (.int 6 g1)))
    (g2x : PySem.W.nsIn K mainGlobals "MOST_READERS" = some (some (.int 6 g2))) :
    ∃ fd : FuncData, (∀ (s : Shared) (v : Value), BindsTo s fd ⟨[v], []⟩ [("script", v)]) ∧ ∀ base : Heap, K.In base → base.Ns mainGlobals mg → (∃ o, base.get? sysModules = some o) → FnOkG l.prog w K mg base 7 fa fd ["script"] (spLaw K) := by
  have e := hfa.symm.trans (PySem.W.mg_of X G a19)
  cases e
  have F1 := fun_mk (st := sIsInt) l1 c1 k1
  have b1 := F1.binds (ps := ["value"]) fun _ _ _ _ _ _ us hl => match us, hl with | [_], _ => rfl
  have F2 := fun_mk (st := sIsAmt) l2 c2 k2
  have b2 := F2.binds (ps := ["value"]) fun _ _ _ _ _ _ us hl => match us, hl with | [_], _ => rfl
  have F3 := fun_mk (st := sIsAsc) l3 c3 k3
  have b3 := F3.binds (ps := ["value", "many"]) fun _ _ _ _ _ _ us hl => match us, hl with | [_, _], _ => rfl
  have F4 := fun_mk (st := sAreDem) l4 c4 k4
  have b4 := F4.binds (ps := ["value"]) fun _ _ _ _ _ _ us hl => match us, hl with | [_], _ => rfl
  have F5 := fun_mk (st := sIsRd) l5 c5 k5
  have b5 := F5.binds (ps := ["value", "many"]) fun _ _ _ _ _ _ us hl => match us, hl with | [_, _], _ => rfl
  have F6 := fun_mk (st := sFeed) l6 c6 k6
  have b6 := F6.binds (ps := ["script", "k"]) fun _ _ _ _ _ _ us hl => match us, hl with | [_, _], _ => rfl
  have F7 := fun_mk (st := sTake) l7 c7 k7
  have b7 := F7.binds (ps := ["feed", "many"]) fun _ _ _ _ _ _ us hl => match us, hl with | [_, _], _ => rfl
  have F8 := fun_mk (st := sPick) l8 c8 k8
  have b8 := F8.binds (ps := ["feed", "some"]) fun _ _ _ _ _ _ us hl => match us, hl with | [_, _], _ => rfl
  have F9 := fun_mk (st := sRow) l9 c9 k9
  have b9 := F9.binds (ps := ["feed", "reader"]) fun _ _ _ _ _ _ us hl => match us, hl with | [_, _], _ => rfl
  have F10 := fun_mk (st := sRows) l10 c10 k10
  have b10 := F10.binds (ps := ["feed", "readers", "absent"]) fun _ _ _ _ _ _ us hl => match us, hl with | [_, _, _], _ => rfl
  have F11 := fun_mk (st := sTimes) l11 c11 k11
  have b11 := F11.binds (ps := ["rows", "works"]) fun _ _ _ _ _ _ us hl => match us, hl with | [_, _], _ => rfl
  have F12 := fun_mk (st := sBook) l12 c12 k12
  have b12 := F12.binds (ps := ["feed", "most_works", "most_readers"]) fun _ _ _ _ _ _ us hl => match us, hl with | [_, _, _], _ => rfl
  have F13 := fun_mk (st := sNum) l13 c13 k13
  have b13 := F13.binds (ps := ["value", "least", "greatest"]) fun _ _ _ _ _ _ us hl => match us, hl with | [_, _, _], _ => rfl
  have F14 := fun_mk (st := sLRd) l14 c14 k14
  have b14 := F14.binds (ps := ["value", "works"]) fun _ _ _ _ _ _ us hl => match us, hl with | [_, _], _ => rfl
  have F15 := fun_mk (st := sDue) l15 c15 k15
  have b15 := F15.binds (ps := ["demands", "readers"]) fun _ _ _ _ _ _ us hl => match us, hl with | [_, _], _ => rfl
  have F16 := fun_mk (st := sOdd) l16 c16 k16
  have b16 := F16.binds (ps := ["feed", "reader", "works"]) fun _ _ _ _ _ _ us hl => match us, hl with | [_, _, _], _ => rfl
  have F17 := fun_mk (st := sNear1) l17 c17 k17
  have b17 := F17.binds (ps := ["feed", "demands", "readers"]) fun _ _ _ _ _ _ us hl => match us, hl with | [_, _, _], _ => rfl
  have F18 := fun_mk (st := sTold) l18 c18 k18
  have b18 := F18.binds (ps := ["demands", "readers"]) fun _ _ _ _ _ _ us hl => match us, hl with | [_, _], _ => rfl
  have F19 := fun_mk (st := sLaw) l19 c19 k19
  have b19 := F19.binds (ps := ["script"]) fun _ _ _ _ _ _ us hl => match us, hl with | [_], _ => rfl
  have Fm1 := fun_mk (st := sBkInit) lm1 cm1 km1
  have bm1 := Fm1.binds (ps := ["self", "demands", "readers"]) fun _ _ _ _ _ _ us hl => match us, hl with | [_, _, _], _ => rfl
  have Fm2 := fun_mk (st := sBkDem) lm2 cm2 km2
  have bm2 := Fm2.binds (ps := ["self"]) fun _ _ _ _ _ _ us hl => match us, hl with | [_], _ => rfl
  have Fm3 := fun_mk (st := sBkRd) lm3 cm3 km3
  have bm3 := Fm3.binds (ps := ["self"]) fun _ _ _ _ _ _ us hl => match us, hl with | [_], _ => rfl
  have Fm4 := fun_mk (st := sBkEq) lm4 cm4 km4
  have bm4 := Fm4.binds (ps := ["self", "other"]) fun _ _ _ _ _ _ us hl => match us, hl with | [_, _], _ => rfl
  have Fm5 := fun_mk (st := sBkLen) lm5 cm5 km5
  have bm5 := Fm5.binds (ps := ["self"]) fun _ _ _ _ _ _ us hl => match us, hl with | [_], _ => rfl
  have B : Bi mg := ⟨PySem.W.mg_none_of X G z0, PySem.W.mg_none_of X G z1, PySem.W.mg_none_of X G z2, PySem.W.mg_none_of X G z3, PySem.W.mg_none_of X G z4, PySem.W.mg_none_of X G z5, PySem.W.mg_none_of X G z6, PySem.W.mg_none_of X G z7, PySem.W.mg_none_of X G z8, PySem.W.mg_none_of X G z9, PySem.W.mg_none_of X G z10, PySem.W.mg_none_of X G z11, PySem.W.mg_none_of X G z12, PySem.W.mg_none_of X G z13, PySem.W.mg_none_of X G z14, PySem.W.mg_none_of X G z15⟩
  have L : Low K mg := ⟨B, ⟨_, _, F6, b6, PySem.W.mg_of X G a6⟩, ⟨_, _, F7, b7, PySem.W.mg_of X G a7⟩, ⟨_, _, F8, b8, PySem.W.mg_of X G a8⟩, ⟨_, _, F9, b9, PySem.W.mg_of X G a9⟩, ⟨_, _, F10, b10, PySem.W.mg_of X G a10⟩, ⟨_, _, F11, b11, PySem.W.mg_of X G a11⟩, ⟨_, _, F12, b12, PySem.W.mg_of X G a12⟩⟩
  have V1 : Vals1 K mg := ⟨B, ⟨_, PySem.W.mg_of X G g0x⟩, ⟨_, PySem.W.mg_of X G g1x⟩, ⟨_, PySem.W.mg_of X G g2x⟩, ⟨_, _, F1, b1, PySem.W.mg_of X G a1⟩, ⟨_, _, F2, b2, PySem.W.mg_of X G a2⟩, ⟨_, _, F3, b3, PySem.W.mg_of X G a3⟩, ⟨_, _, F4, b4, PySem.W.mg_of X G a4⟩, ⟨_, _, F5, b5, PySem.W.mg_of X G a5⟩⟩
  have cl : Cls K C := ⟨pg, hd, po, sa⟩
  have TB0 : BookTxt K mg C := ⟨cl, nD, nR, PySem.W.mg_of X G aC, ⟨_, _, Fm1, bm1, ⟨mk, am1, im1, kc⟩⟩, ⟨_, _, Fm2, bm2, ⟨am2, im2, km2⟩⟩, ⟨_, _, Fm3, bm3, ⟨am3, im3, km3⟩⟩, ⟨_, _, Fm4, bm4, ⟨am4, im4, km4⟩⟩, ⟨cl, ha, hn, htk, hm, me⟩, by simp [PySem.W.notFirst]⟩
  have N : NoBook K C := by
    intro T hT
    simp only [List.mem_cons, List.not_mem_nil, or_false] at hT
    rcases hT with rfl | rfl | rfl | rfl | rfl | rfl | rfl
    · exact ⟨t0, notF u0⟩
    · exact ⟨t1, notF u1⟩
    · exact ⟨t2, notF u2⟩
    · exact ⟨t3, notF u3⟩
    · exact ⟨t4, notF u4⟩
    · exact ⟨t5, notF u5⟩
    · exact ⟨t6, notF u6⟩
  have Fe1 := fun_mk (st := sBB) le1 ce1 ke1
  have be1 := Fe1.binds (ps := ["self", "place"]) fun _ _ _ _ _ _ us hl => match us, hl with | [_, _], _ => rfl
  have TB : BBTxt K mg BB RE := ⟨⟨⟨_, _, _, _, _, _, _, _, _, _, _, _, _, _, _, eL, (show PySem.HandSPX.refsVE [.type "ValueError", .type "Exception", .type "BaseException", .type "object"] = true by decide +kernel)⟩, eS, eX, eT, eK⟩, ⟨_, _, Fe1, be1, eI, eF⟩, PySem.W.mg_of X G eA, PySem.W.mg_of X G eR, eg, er, ef, eP, ⟨eG, eg2, eX, eH⟩, exm_self eX eC eT eZ⟩
  have LT : LenOf K C := ⟨_, _, Fm5, bm5, ⟨am5, im5, km5⟩⟩
  have O : Own1 K mg := ⟨PySem.W.mg_none_of X G xset, ⟨_, _, F13, b13, PySem.W.mg_of X G a13⟩, ⟨_, _, F14, b14, PySem.W.mg_of X G a14⟩, ⟨_, _, F15, b15, PySem.W.mg_of X G a15⟩, ⟨_, _, F16, b16, PySem.W.mg_of X G a16⟩, ⟨_, _, F17, b17, PySem.W.mg_of X G a17⟩, ⟨_, _, F18, b18, PySem.W.mg_of X G a18⟩⟩
  exact ⟨PySem.W.fnOf "law" "law" (defArgs sLaw) (defBody sLaw) (defScope sLaw) .none kV19 dc19 pm19 an19 cd19 ct19, fun s v => .of_eq rfl, fun base _ _ hb => ok_law F19 L V1 TB0 N TB LT O hb⟩
end Ew
open PySem PySem.W PyProof.Rows in
set_option maxRecDepth 100000 in
set_option maxHeartbeats 0 in
theorem PySem.Challenge.cw_eachworkread_k01_values_that_are_books_holds : PySem.Challenge.rw_eachworkread_k01_values_that_are_books.Holds := by
  w_on; o_law; k_head; (case hw => w_witness2)
  k_fill
  refine Ew.walk_ofG2 (l := PySem.Challenge.rw_eachworkread_k01_values_that_are_books) (n := 63) (k := 7) (x := "script") (sp := fun w => Ew.spLaw _) rfl (by decide) rfl ⟨rfl, by decide, by decide⟩ (by decide +kernel) (fun w h Y => PySem.W.kIn_of Y) ?F (fun _ _ a ns hl hS => ⟨a, ns, rfl, hS, hl, fun _ => rfl⟩)
  case F =>
    intro w mg fa h KX G hmg
    refine' Ew.all_mk KX G hmg ?a1 ?l1 ?c1 ?k1 ?a2 ?l2 ?c2 ?k2 ?a3 ?l3 ?c3 ?k3 ?a4 ?l4 ?c4 ?k4 ?a5 ?l5 ?c5 ?k5 ?a6 ?l6 ?c6 ?k6 ?a7 ?l7 ?c7 ?k7 ?a8 ?l8 ?c8 ?k8 ?a9 ?l9 ?c9 ?k9 ?a10 ?l10 ?c10 ?k10 ?a11 ?l11 ?c11 ?k11 ?a12 ?l12 ?c12 ?k12 ?a13 ?l13 ?c13 ?k13 ?a14 ?l14 ?c14 ?k14 ?a15 ?l15 ?c15 ?k15 ?a16 ?l16 ?c16 ?k16 ?a17 ?l17 ?c17 ?k17 ?a18 ?l18 ?c18 ?k18 ?a19 ?l19 ?c19 ?k19 ?aC ?am1 ?im1 ?lm1 ?cm1 ?km1 ?am2 ?im2 ?lm2 ?cm2 ?km2 ?am3 ?im3 ?lm3 ?cm3 ?km3 ?am4 ?im4 ?lm4 ?cm4 ?km4 ?am5 ?im5 ?lm5 ?cm5 ?km5 ?pg ?hd ?po ?sa ?mk ?kc ?nD ?nR ?ha ?hn ?htk ?hm ?me ?t0 ?u0 ?t1 ?u1 ?t2 ?u2 ?t3 ?u3 ?t4 ?u4 ?t5 ?u5 ?t6 ?u6 ?xset ?z0 ?z1 ?z2 ?z3 ?z4 ?z5 ?z6 ?z7 ?z8 ?z9 ?z10 ?z11 ?z12 ?z13 ?z14 ?z15 ?eA ?eR ?eL ?eS ?eX ?eT ?eK ?eI ?eF ?le1 ?ce1 ?ke1 ?eg ?er ?ef ?eP ?eG ?eg2 ?eH ?eC ?eZ ?g0x ?g1x ?g2x
    (case a1 => k_is)
    (case l1 => k_is)
    (case c1 => k_is)
    (case k1 => k_is)
    (case a2 => k_is)
    (case l2 => k_is)
    (case c2 => k_is)
    (case k2 => k_is)
    (case a3 => k_is)
    (case l3 => k_is)
    (case c3 => k_is)
    (case k3 => k_is)
    (case a4 => k_is)
    (case l4 => k_is)
    (case c4 => k_is)
    (case k4 => k_is)
    (case a5 => k_is)
    (case l5 => k_is)
    (case c5 => k_is)
    (case k5 => k_is)
    (case a6 => k_is)
    (case l6 => k_is)
    (case c6 => k_is)
    (case k6 => k_is)
    (case a7 => k_is)
    (case l7 => k_is)
    (case c7 => k_is)
    (case k7 => k_is)
    (case a8 => k_is)
    (case l8 => k_is)
    (case c8 => k_is)
    (case k8 => k_is)
    (case a9 => k_is)
    (case l9 => k_is)
    (case c9 => k_is)
    (case k9 => k_is)
    (case a10 => k_is)
    (case l10 => k_is)
    (case c10 => k_is)
    (case k10 => k_is)
    (case a11 => k_is)
    (case l11 => k_is)
    (case c11 => k_is)
    (case k11 => k_is)
    (case a12 => k_is)
    (case l12 => k_is)
    (case c12 => k_is)
    (case k12 => k_is)
    (case a13 => k_is)
    (case l13 => k_is)
    (case c13 => k_is)
    (case k13 => k_is)
    (case a14 => k_is)
    (case l14 => k_is)
    (case c14 => k_is)
    (case k14 => k_is)
    (case a15 => k_is)
    (case l15 => k_is)
    (case c15 => k_is)
    (case k15 => k_is)
    (case a16 => k_is)
    (case l16 => k_is)
    (case c16 => k_is)
    (case k16 => k_is)
    (case a17 => k_is)
    (case l17 => k_is)
    (case c17 => k_is)
    (case k17 => k_is)
    (case a18 => k_is)
    (case l18 => k_is)
    (case c18 => k_is)
    (case k18 => k_is)
    (case a19 => k_is)
    (case l19 => k_is)
    (case c19 => k_is)
    (case k19 => k_is)
    (case aC => k_is)
    (case am1 => k_is)
    (case im1 => k_is)
    (case lm1 => k_is)
    (case cm1 => k_is)
    (case km1 => k_is)
    (case am2 => k_is)
    (case im2 => k_is)
    (case lm2 => k_is)
    (case cm2 => k_is)
    (case km2 => k_is)
    (case am3 => k_is)
    (case im3 => k_is)
    (case lm3 => k_is)
    (case cm3 => k_is)
    (case km3 => k_is)
    (case am4 => k_is)
    (case im4 => k_is)
    (case lm4 => k_is)
    (case cm4 => k_is)
    (case km4 => k_is)
    (case am5 => k_is)
    (case im5 => k_is)
    (case lm5 => k_is)
    (case cm5 => k_is)
    (case km5 => k_is)
    (case pg => k_is)
    (case hd => k_is)
    (case po => k_is)
    (case sa => k_is)
    (case mk => k_is)
    (case kc => k_is)
    (case nD => k_is)
    (case nR => k_is)
    (case ha => k_is)
    (case hn => k_is)
    (case htk => k_is)
    (case hm => k_is)
    (case me => kit_is)
    (case t0 => kit_is)
    (case u0 => k_is)
    (case t1 => kit_is)
    (case u1 => k_is)
    (case t2 => kit_is)
    (case u2 => k_is)
    (case t3 => kit_is)
    (case u3 => k_is)
    (case t4 => kit_is)
    (case u4 => k_is)
    (case t5 => kit_is)
    (case u5 => k_is)
    (case t6 => kit_is)
    (case u6 => k_is)
    (case xset => k_is)
    (case z0 => k_is)
    (case z1 => k_is)
    (case z2 => k_is)
    (case z3 => k_is)
    (case z4 => k_is)
    (case z5 => k_is)
    (case z6 => k_is)
    (case z7 => k_is)
    (case z8 => k_is)
    (case z9 => k_is)
    (case z10 => k_is)
    (case z11 => k_is)
    (case z12 => k_is)
    (case z13 => k_is)
    (case z14 => k_is)
    (case z15 => k_is)
    (case eA => k_is)
    (case eR => k_is)
    (case eL => k_is)
    (case eS => k_is)
    (case eX => k_is)
    (case eT => k_is)
    (case eK => k_is)
    (case eI => k_is)
    (case eF => k_is)
    (case le1 => k_is)
    (case ce1 => k_is)
    (case ke1 => k_is)
    (case eg => k_is)
    (case er => k_is)
    (case ef => k_is)
    (case eP => k_is)
    (case eG => k_is)
    (case eg2 => k_is)
    (case eH => k_is)
    (case eC => k_is)
    (case eZ => first | rfl | k_is)
    (case g0x => k_is)
    (case g1x => k_is)
    (case g2x => k_is)
